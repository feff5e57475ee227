import Derived.Test.YtchkhibgbnhjpabGreatDoorT15
open List renaming length_set→Xa,getElem?_append_right→Xd,getElem?_append_left→Xe,getElem?_eq_getElem→Xf,flatMap_def→Xi
open Nat renaming le_succ_of_le→Xb,eq_zero_or_pos→Xg,le_trans→Xj,le_succ→Xk
open Or renaming inl→Xc,inr→Xh
open Go.Value renaming string→J,int→I
open Go.IntKind renaming i64→X
open Go.Ending renaming returned→Y
open Go.Obj renaming cells→O
namespace Go.Proofs.YtchkhibgbnhjpabGreatDoor
open Tryz
open Go.RowKit
set_option maxHeartbeats 8000000
set_option maxRecDepth 8000
variable [Fl]
set_option linter.all false
theorem ZCM{w:World}{e:TypeId}{s n g cap:Nat}{xs:List Value}(h:w.ownsRow 0 e s (.slice (some ⟨g,0,none⟩) n cap) n xs)(j:Nat)(x:Value):(w.setCell ⟨g,j,none⟩ x).ownsRow 0 e s (.slice (some ⟨g,0,none⟩) n cap) n (xs.set j x):=by
 obtain⟨h1,⟨h2,-⟩|⟨g',cap',cur,he,h3,h4,h5,h6,h7,h8⟩⟩:=h
 .cases h2
 .cases he
  refine⟨by rw[Xa];exact h1,Xh ⟨g,cap,cur.set! j x,rfl,h3,?_,h5,h6,by simp[h7],?_⟩⟩
  .simp only[World.setCell,Array.getElem?_modify,ifP,h4]
   rfl
  .rw[<-h8,<-List.take_set]
   simp
theorem ZHQ{α β:Type}{f:α->List β}{l:List α}{i:Nat}{a b:α}(h:l[i]?=some a)(he:f b=f a):(l.set i b).flatMap f=l.flatMap f:=by rw[Xi,Xi,ZKH h he]
theorem Inv.wrP{w0 w w2:World}{n wb:Nat}{q:Bool}{us ps ts:Value}{own:Nat->Nat×Nat}{S:Scr}(h:Inv w0 n w wb q us ps ts own S){j i:Nat}{p:HP}(hj:S.ps[j]?=some p)(hi:i<p.l.length)(hn:Nx w w2)(a b:BA):ZHO w0 ((((w2.setCell ⟨p.nb,i*2,none⟩ (J a)).setCell ⟨p.nb,i*2+1,none⟩ (J b)).setCell ⟨p.mb,i*2,none⟩ (J a)).setCell ⟨p.mb,i*2+1,none⟩ (J b)) wb (n+1):=by
 have h2:=h.on hn;obtain⟨g,gf⟩:=h2.po j p hj;have b1:But p.nb w2 ((w2.setCell ⟨p.nb,i*2,none⟩ (J a)).setCell ⟨p.nb,i*2+1,none⟩ (J b)):=((But.refl p.nb w2).set (i*2) _).set (i*2+1) _;have r1:=ZCM (ZCM g.real (i*2) (J a)) (i*2+1) (J b)
 have m1:=ZzU g.want fun k hk=>b1.block k (g.want.lt k hk).2 (by cases hk;exact Ne.symm g.ne)
 generalize (w2.setCell ⟨p.nb,i*2,none⟩ (J a)).setCell ⟨p.nb,i*2+1,none⟩ (J b)=w3 at *;have b2:But p.mb w3 ((w3.setCell ⟨p.mb,i*2,none⟩ (J a)).setCell ⟨p.mb,i*2+1,none⟩ (J b)):=((But.refl p.mb w3).set (i*2) _).set (i*2+1) _;have m2:=ZCM (ZCM m1 (i*2) (J a)) (i*2+1) (J b)
 have r2:=ZzU r1 fun k hk=>b2.block k (r1.lt k hk).2 (by cases hk;exact g.ne)
 generalize (w3.setCell ⟨p.mb,i*2,none⟩ (J a)).setCell ⟨p.mb,i*2+1,none⟩ (J b)=w4 at *;rw[ZD6 _ _ _ _ hi]at r2 m2
 have ho:Out (fun k=>own k=(2,j)) w2 w4:=(Out.of_but b1 (gf _ (Xc rfl))).then (Out.of_but b2 (gf _ (Xh rfl)))
 obtain⟨s0,s1,s2,s3,s4⟩:=h2.rows (t:=(2,j)) (by simp) ho
 have hl:(p.l.set i (a,b)).length=p.l.length:=Xa
 refine⟨_,_,_,_,_,_,h2.gen (n':=n+1) (S':={ S with ps:=S.ps.set j { p with l:=p.l.set i (a,b) } }) (2,j) (fun _=>(2,j)) (by simp) ho s0 s1 ?_ s3 s4 (fun i e he=>Xc ⟨he,by simp⟩) ?_ (fun i e he=>Xc ⟨he,by simp⟩) ⟨Xb h.cnt.1,by rw[Xa];exact Xb h.cnt.2.1,Xb h.cnt.2.2⟩⟩
 .show w4.ownsRow 0 _ 2 ps (S.ps.set j _).length ((S.ps.set j _).flatMap HP.c)
  rw[Xa,ZHQ hj (by unfold HP.c;rw[hl])]
  exact s2
 .intro k f hf
  rcases get_set hf with⟨f1,f2⟩|⟨rfl,rfl⟩
  .exact Xc ⟨f1,by simp;omega⟩
  .refine Xh ⟨⟨by show 0<(p.l.set i (a,b)).length;rw[hl];exact g.pos,by show(p.l.set i (a,b)).length<=_;rw[hl];exact g.len,by show OwnP w4 0 (.slice _ (p.l.set i (a,b)).length (p.l.set i (a,b)).length) (p.l.set i (a,b));unfold OwnP;rw[hl];exact r2,by show OwnP w4 0 (.slice _ (p.l.set i (a,b)).length p.cap) (p.l.set i (a,b));unfold OwnP;rw[hl];exact m2,g.ne⟩,fun k' hk=>?_⟩
   have hk':p.F k':=hk;rw[ifP (g.lt hk')];exact gf _ hk'
theorem Inv.wrT{w0 w w2:World}{n wb:Nat}{q:Bool}{us ps ts:Value}{own:Nat->Nat×Nat}{S:Scr}(h:Inv w0 n w wb q us ps ts own S){j i:Nat}{p:HT}(hj:S.ts[j]?=some p)(hn:Nx w w2)(a:BA):ZHO w0 ((w2.setCell ⟨p.nb,i,none⟩ (J a)).setCell ⟨p.mb,i,none⟩ (J a)) wb (n+1):=by
 have h2:=h.on hn;obtain⟨g,gf⟩:=h2.to_ j p hj;have b1:But p.nb w2 (w2.setCell ⟨p.nb,i,none⟩ (J a)):=(But.refl p.nb w2).set i _;have r1:=ZCM g.real i (J a)
 have m1:=ZzU g.want fun k hk=>b1.block k (g.want.lt k hk).2 (by cases hk;exact Ne.symm g.ne)
 generalize w2.setCell ⟨p.nb,i,none⟩ (J a)=w3 at *;have b2:But p.mb w3 (w3.setCell ⟨p.mb,i,none⟩ (J a)):=(But.refl p.mb w3).set i _;have m2:=ZCM m1 i (J a)
 have r2:=ZzU r1 fun k hk=>b2.block k (r1.lt k hk).2 (by cases hk;exact g.ne)
 generalize w3.setCell ⟨p.mb,i,none⟩ (J a)=w4 at *;rw[<-List.map_set]at r2 m2
 have ho:Out (fun k=>own k=(3,j)) w2 w4:=(Out.of_but b1 (gf _ (Xc rfl))).then (Out.of_but b2 (gf _ (Xh rfl)))
 obtain⟨s0,s1,s2,s3,s4⟩:=h2.rows (t:=(3,j)) (by simp) ho
 have hl:(p.l.set i a).length=p.l.length:=Xa
 refine⟨_,_,_,_,_,_,h2.gen (n':=n+1) (S':={ S with ts:=S.ts.set j { p with l:=p.l.set i a } }) (3,j) (fun _=>(3,j)) (by simp) ho s0 s1 s2 ?_ s4 (fun i e he=>Xc ⟨he,by simp⟩) (fun i e he=>Xc ⟨he,by simp⟩) ?_ ⟨Xb h.cnt.1,Xb h.cnt.2.1,by rw[Xa];exact Xb h.cnt.2.2⟩⟩
 .show w4.ownsRow 0 _ 2 ts (S.ts.set j _).length ((S.ts.set j _).flatMap HT.c)
  rw[Xa,ZHQ hj (by unfold HT.c;rw[hl])]
  exact s3
 .intro k f hf
  rcases get_set hf with⟨f1,f2⟩|⟨rfl,rfl⟩
  .exact Xc ⟨f1,by simp;omega⟩
  .refine Xh ⟨⟨by show 0<(p.l.set i a).length;rw[hl];exact g.pos,by show(p.l.set i a).length<=_;rw[hl];exact g.len,by show ZbK w4 0 (.slice _ (p.l.set i a).length (p.l.set i a).length) (p.l.set i a);unfold ZbK;rw[hl];exact r2,by show ZbK w4 0 (.slice _ (p.l.set i a).length p.cap) (p.l.set i a);unfold ZbK;rw[hl];exact m2,g.ne⟩,fun k' hk=>?_⟩
   have hk':p.F k':=hk;rw[ifP (g.lt hk')];exact gf _ hk'
theorem ZMa{w:World}{hb:Nat}{x y:Value}{e:TypeId}(h:w.heap[hb]?=some (O #[x,y] e (0,0))):w.cell? ⟨hb,0,none⟩=some x/\w.cell? ⟨hb,1,none⟩=some y:=by constructor<;>simp[World.cell?,h]
theorem ZC6{α β:Type}{f:α->List β}{l:List α}(hf:∀a,(f a).length=2){j:Nat}{p:α}(h:l[j]?=some p):(l.flatMap f)[j*2]?=(f p)[0]?/\(l.flatMap f)[j*2+1]?=(f p)[1]?:=by
 induction l generalizing j with
 | nil=>cases h
 | cons a r ih=>
  rw[List.flatMap_cons]
  cases j with
  | zero=>
   cases h
   have:=hf p
   exact⟨Xe (by omega),Xe (by omega)⟩
  | succ j=>
   have:=hf a;obtain⟨h1,h2⟩:=ih (j:=j) h
   rw[Xd (by omega),Xd (by omega),this,show(j+1)*2-2=j*2 by omega,show(j+1)*2+1-2=j*2+1 by omega]
   exact⟨h1,h2⟩
theorem ZEr{w:World}{g n cap:Nat}{l:List Pq}(h:OwnP w 0 (.slice (some ⟨g,0,none⟩) n cap) l){i:Nat}(hi:i<l.length):(∃x,w.cell? ⟨g,i*2,none⟩=some x)/\(∃x,w.cell? ⟨g,i*2+1,none⟩=some x)/\w.frozen? ⟨g,i*2,none⟩=false/\w.frozen? ⟨g,i*2+1,none⟩=false:=by
 obtain⟨ao,cp,he,-,hc⟩:=Zz4 h
 obtain⟨g',hg,hc⟩:=hc (by omega)
 cases he
 cases hg
 obtain⟨c0,c1⟩:=ZAO l i hi;obtain⟨-,⟨h2,-⟩|⟨g',cap',cur,he,-,h4,-⟩⟩:=h
 .cases h2
 .cases he
  exact⟨⟨_,hc _ _ c0⟩,⟨_,hc _ _ c1⟩,by simp[World.frozen?,h4],by simp[World.frozen?,h4]⟩
theorem ZKK{w:World}{ob hb g n cap:Nat}{k a b c:Int}{s t:BA}{x y:Value}{l:List Pq}(ho:OpB w ob k a b c s t)(hh:w.heap[hb]?=some (O #[x,y] 92 (0,0)))(h:OwnP w 0 (.slice (some ⟨g,0,none⟩) n cap) l){i:Nat}(a' b':BA):OpB ((w.setCell ⟨g,i*2,none⟩ (J a')).setCell ⟨g,i*2+1,none⟩ (J b')) ob k a b c s t/\((w.setCell ⟨g,i*2,none⟩ (J a')).setCell ⟨g,i*2+1,none⟩ (J b')).heap[hb]?=some (O #[x,y] 92 (0,0))/\But g w ((w.setCell ⟨g,i*2,none⟩ (J a')).setCell ⟨g,i*2+1,none⟩ (J b')):=by
 have hb1:But g w ((w.setCell ⟨g,i*2,none⟩ (J a')).setCell ⟨g,i*2+1,none⟩ (J b')):=((But.refl g w).set (i*2) _).set (i*2+1) _;have k1:Kp 113 w _:=Out.kpr (Out.of_but hb1 (show At (.slice (some ⟨g,0,none⟩) n cap) g from rfl)) h
 exact⟨k1.2 _ _ _ _ ho (by decide),k1.2 _ _ _ _ hh (by decide),hb1⟩
theorem ZG6(wi:World)(n wb:Nat)(q:Bool)(us ps ts:Value)(own:Nat->Nat×Nat)(S:Scr)(a b c:Int)(s t:BA)(w:World)(h:Inv wi n w wb q us ps ts own S)(hn:n<=100000)(a0:-9223372036854775808<=a)(a1:a<=9223372036854775807)(b0:-9223372036854775808<=b)(b1:b<=9223372036854775807):Calls prog 163 #[.pointer (some ⟨wb,0,none⟩),.agg #[I X 10,I X a,I X b,I X c,J s,J t]] w fun e w'=>e=Y (.tuple #[])/\ZHO wi w' wb (n+1):=by
 have H:=A h;have HOB:=A (show OpB (w.alloc (O #[I X 10,I X a,I X b,I X c,J s,J t] 45)) w.heap.size 10 a b c s t from heap_alloc_new w _);have HN1:=A (show Nx w (w.alloc (O #[I X 10,I X a,I X b,I X c,J s,J t] 45))from Nx.rfl.alloc _);obtain⟨ao,cap,hue,hcl,hrow⟩:=Zz4 h.rp;have hun:S.ps.length<=100000:=Xj h.cnt.2.1 hn;have HROW:=A hrow;obtain⟨m,hm⟩:∃m,m=S.ps.length:=⟨_,rfl⟩;rw[<-hm]at hue hcl hun HROW;have HM:=A hm;clear h hrow hm;subst hue
 go_enter func163,ntmps163
 go_upto_region 1 with fail;generalize w.alloc (O #[I X 10,I X a,I X b,I X c,J s,J t] 45)=w1 at *;generalize hob:w.heap.size=ob at *;clear hob;obtain⟨o0,o1,o2,o3,o4,o5⟩:=HOB.o.all;obtain⟨q0,q1,q2,q3,hwl⟩:=(H.o.wbk.on HN1.o).facts;rcases Xg m with hm0|hpos
 .have hp1:decide ((0:Int)<(m:Int))=false:=decide_eq_false (by omega)
  have hp2:decide (0<m)=false:=decide_eq_false (by omega)
  clear hm0;go_wp2
  first|go_ret|skip
  exact bodyPost_end (results_none rfl _ _ _) rfl ⟨rfl,_,_,_,_,_,_,(H.o.on HN1.o).up (Xk _)⟩
 .have hp1:decide ((0:Int)<(m:Int))=true:=decide_eq_true (by omega)
  obtain⟨g,hg,hgc⟩:=HROW.o hpos;subst hg;have hpk:=ZBw a hpos
  obtain⟨p,hp⟩:∃p,S.ps[ZAE a m]?=some p:=⟨_,Xf (by rw[<-HM.o];exact hpk)⟩
  have HE:=A hp
  obtain⟨f1,f2⟩:=ZC6 (f:=HP.c) (fun _=>rfl) hp
  have hblk:=HN1.o.block g (ZAd H.o.rp rfl);have c0:=(World.cell?_of_block (a:=⟨g,ZAE a m*2,none⟩) hblk).trans (hgc _ _ f1);have c1:=(World.cell?_of_block (a:=⟨g,ZAE a m*2+1,none⟩) hblk).trans (hgc _ _ f2);clear hp hgc f1 f2 hblk
  have HPK:=A (fun w'=>ZA0 a m a0 a1 hpos (by omega) w')
  generalize ZAE a m=pk at *;obtain⟨hpo,-⟩:=H.o.po pk p HE.o;have hlp:=hpo.pos;have hll:=hpo.len;have hpi:=ZBw b hlp
  have HPB:=A (fun w'=>ZA0 b p.l.length b0 b1 hlp (by omega) w')
  have HWR:=A (fun w2 hn2=>H.o.wrP (w2:=w2) HE.o hpi hn2 s t)
  have HPO:=A hpo;clear hpo;go_upto_region 2 with fail
  go_cut [4]from 19 (fun x wx=>∃hb:Nat,x=.pointer (some ⟨hb,0,none⟩)/\wx.heap[hb]?=some (O #[.slice (some ⟨p.nb,0,none⟩) p.l.length p.l.length,.slice (some ⟨p.mb,0,none⟩) p.l.length p.cap] 92 (0,0))/\Nx w1 wx)
  case first=>
   go_region_held (fun w'=>w'.cell? ⟨wb,2,none⟩=some (.slice (some ⟨g,0,none⟩) m cap)/\w'.cell? ⟨ob,1,none⟩=some (I X a)/\w'.cell? ⟨g,pk*2,none⟩=some (.slice (some ⟨p.nb,0,none⟩) p.l.length p.l.length)/\w'.cell? ⟨g,pk*2+1,none⟩=some (.slice (some ⟨p.mb,0,none⟩) p.l.length p.cap)) (first|exact⟨q2,o1,c0,c1⟩|exact⟨ZzM q2,ZzM o1,ZzM c0,ZzM c1⟩) ((go_at_call 164;refine(HPK.o _).mono ?_;rintro e w' ⟨rfl,rfl⟩))
   all_goals go_wp2_with fail
   all_goals go_meet
   all_goals first|exact⟨_,rfl,heap_alloc_new w1 _,(Nx.rfl.alloc _).drew⟩|exact⟨_,rfl,heap_alloc_new w1 _,Nx.rfl.alloc _⟩
  obtain⟨hb,hx4,hhb,hnn⟩:=hcut;subst hx4;obtain⟨w2,hw2⟩:∃w2,w2=wc:=⟨_,rfl⟩;subst hw2;have HN2:=A (HN1.o.then hnn);have HOB2:=A (HOB.o.on hnn);have HHB:=A hhb
  have HR2:=A (ZzU HPO.o.real fun k hk=>HN2.o.block k (HPO.o.real.lt k hk).2)
  have HW2:=A (ZzU HPO.o.want fun k hk=>HN2.o.block k (HPO.o.want.lt k hk).2)
  clear o0 o1 o2 o3 o4 o5 q0 q1 q2 q3 hwl c0 c1 hhb hnn;obtain⟨o0,o1,o2,o3,o4,o5⟩:=HOB2.o.all;obtain⟨h0,h1⟩:=ZMa HHB.o;go_wp2_with fail
  refine(HPB.o _).mono ?_
  rintro e w' ⟨rfl,rfl⟩;generalize ZAE b p.l.length=pi at *;obtain⟨⟨x0,e0⟩,⟨x1,e1⟩,fz0,fz1⟩:=ZEr HR2.o hpi;obtain⟨b2,b3,b4⟩:=ZKK HOB2.o HHB.o HR2.o (i:=pi) s t;have HOB3:=A b2;have HHB3:=A b3;have HBB:=A b4
  have HW3:=A (ZzU HW2.o fun k hk=>b4.block k (HW2.o.lt k hk).2 (by cases hk;exact Ne.symm HPO.o.ne))
  clear b2 b3 b4;go_upto_region 5 with fail;have HGD:=A (HWR.o w2 HN2.o);generalize (w2.setCell ⟨p.nb,pi*2,none⟩ (J s)).setCell ⟨p.nb,pi*2+1,none⟩ (J t)=w3 at *;clear o0 o1 o2 o3 o4 o5 h0 h1 e0 e1 fz0 fz1;obtain⟨o0,o1,o2,o3,o4,o5⟩:=HOB3.o.all;obtain⟨h0,h1⟩:=ZMa HHB3.o;obtain⟨⟨x0,e0⟩,⟨x1,e1⟩,fz0,fz1⟩:=ZEr HW3.o hpi;obtain⟨b2,-,-⟩:=ZKK HOB3.o HHB3.o HW3.o (i:=pi) s t;have HOB4:=A b2;clear b2;go_upto_region 6 with fail;generalize (w3.setCell ⟨p.mb,pi*2,none⟩ (J s)).setCell ⟨p.mb,pi*2+1,none⟩ (J t)=w4 at *;clear o0 o1 o2 o3 o4 o5 h0 h1 e0 e1 fz0 fz1;obtain⟨o0,o1,o2,o3,o4,o5⟩:=HOB4.o.all;go_wp2;exact bodyPost_end (results_none rfl _ _ _) rfl ⟨rfl,HGD.o⟩
theorem ZEs{w:World}{g n cap:Nat}{l:LA}(h:ZbK w 0 (.slice (some ⟨g,0,none⟩) n cap) l){i:Nat}(hi:i<l.length):(∃x,w.cell? ⟨g,i,none⟩=some x)/\w.frozen? ⟨g,i,none⟩=false:=by
 obtain⟨ao,cp,he,-,hc⟩:=Zz4 h
 obtain⟨g',hg,hc⟩:=hc (by omega)
 cases he
 cases hg
 obtain⟨-,⟨h2,-⟩|⟨g',cap',cur,he,-,h4,-⟩⟩:=h
 .cases h2
 .cases he
  exact⟨⟨_,hc i (J l[i]) (by simp[hi])⟩,by simp[World.frozen?,h4]⟩
theorem ZMX{w:World}{ob hb g n cap:Nat}{k a b c:Int}{s t:BA}{x y:Value}{l:LA}(ho:OpB w ob k a b c s t)(hh:w.heap[hb]?=some (O #[x,y] 83 (0,0)))(h:ZbK w 0 (.slice (some ⟨g,0,none⟩) n cap) l){i:Nat}(a':BA):OpB (w.setCell ⟨g,i,none⟩ (J a')) ob k a b c s t/\(w.setCell ⟨g,i,none⟩ (J a')).heap[hb]?=some (O #[x,y] 83 (0,0))/\But g w (w.setCell ⟨g,i,none⟩ (J a')):=by
 have hb1:But g w (w.setCell ⟨g,i,none⟩ (J a')):=(But.refl g w).set i _;have k1:Kp 9 w _:=Out.kpr (Out.of_but hb1 (show At (.slice (some ⟨g,0,none⟩) n cap) g from rfl)) h
 exact⟨k1.2 _ _ _ _ ho (by decide),k1.2 _ _ _ _ hh (by decide),hb1⟩
theorem ZG7(wi:World)(n wb:Nat)(q:Bool)(us ps ts:Value)(own:Nat->Nat×Nat)(S:Scr)(a b c:Int)(s t:BA)(w:World)(h:Inv wi n w wb q us ps ts own S)(hn:n<=100000)(a0:-9223372036854775808<=a)(a1:a<=9223372036854775807)(b0:-9223372036854775808<=b)(b1:b<=9223372036854775807):Calls prog 163 #[.pointer (some ⟨wb,0,none⟩),.agg #[I X 11,I X a,I X b,I X c,J s,J t]] w fun e w'=>e=Y (.tuple #[])/\ZHO wi w' wb (n+1):=by
 have H:=A h;have HOB:=A (show OpB (w.alloc (O #[I X 11,I X a,I X b,I X c,J s,J t] 45)) w.heap.size 11 a b c s t from heap_alloc_new w _);have HN1:=A (show Nx w (w.alloc (O #[I X 11,I X a,I X b,I X c,J s,J t] 45))from Nx.rfl.alloc _);obtain⟨ao,cap,hue,hcl,hrow⟩:=Zz4 h.rt;have hun:S.ts.length<=100000:=Xj h.cnt.2.2 hn;have HROW:=A hrow;obtain⟨m,hm⟩:∃m,m=S.ts.length:=⟨_,rfl⟩;rw[<-hm]at hue hcl hun HROW;have HM:=A hm;clear h hrow hm;subst hue
 go_enter func163,ntmps163
 go_upto_region 1 with fail;generalize w.alloc (O #[I X 11,I X a,I X b,I X c,J s,J t] 45)=w1 at *;generalize hob:w.heap.size=ob at *;clear hob;obtain⟨o0,o1,o2,o3,o4,o5⟩:=HOB.o.all;obtain⟨q0,q1,q2,q3,hwl⟩:=(H.o.wbk.on HN1.o).facts;rcases Xg m with hm0|hpos
 .have hp1:decide ((0:Int)<(m:Int))=false:=decide_eq_false (by omega)
  have hp2:decide (0<m)=false:=decide_eq_false (by omega)
  clear hm0;go_wp2
  first|go_ret|skip
  exact bodyPost_end (results_none rfl _ _ _) rfl ⟨rfl,_,_,_,_,_,_,(H.o.on HN1.o).up (Xk _)⟩
 .have hp1:decide ((0:Int)<(m:Int))=true:=decide_eq_true (by omega)
  obtain⟨g,hg,hgc⟩:=HROW.o hpos;subst hg;have hpk:=ZBw a hpos
  obtain⟨p,hp⟩:∃p,S.ts[ZAE a m]?=some p:=⟨_,Xf (by rw[<-HM.o];exact hpk)⟩
  have HE:=A hp
  obtain⟨f1,f2⟩:=ZC6 (f:=HT.c) (fun _=>rfl) hp
  have hblk:=HN1.o.block g (ZAd H.o.rt rfl);have c0:=(World.cell?_of_block (a:=⟨g,ZAE a m*2,none⟩) hblk).trans (hgc _ _ f1);have c1:=(World.cell?_of_block (a:=⟨g,ZAE a m*2+1,none⟩) hblk).trans (hgc _ _ f2);clear hp hgc f1 f2 hblk
  have HPK:=A (fun w'=>ZA0 a m a0 a1 hpos (by omega) w')
  generalize ZAE a m=pk at *;obtain⟨hpo,-⟩:=H.o.to_ pk p HE.o;have hlp:=hpo.pos;have hll:=hpo.len;have hpi:=ZBw b hlp
  have HPB:=A (fun w'=>ZA0 b p.l.length b0 b1 hlp (by omega) w')
  have HWR:=A (fun w2 hn2=>H.o.wrT (w2:=w2) (i:=ZAE b p.l.length) HE.o hn2 s)
  have HPO:=A hpo;clear hpo;go_upto_region 7 with fail
  go_cut [6]from 68 (fun x wx=>∃hb:Nat,x=.pointer (some ⟨hb,0,none⟩)/\wx.heap[hb]?=some (O #[.slice (some ⟨p.nb,0,none⟩) p.l.length p.l.length,.slice (some ⟨p.mb,0,none⟩) p.l.length p.cap] 83 (0,0))/\Nx w1 wx)
  case first=>
   go_region_held (fun w'=>w'.cell? ⟨wb,3,none⟩=some (.slice (some ⟨g,0,none⟩) m cap)/\w'.cell? ⟨ob,1,none⟩=some (I X a)/\w'.cell? ⟨g,pk*2,none⟩=some (.slice (some ⟨p.nb,0,none⟩) p.l.length p.l.length)/\w'.cell? ⟨g,pk*2+1,none⟩=some (.slice (some ⟨p.mb,0,none⟩) p.l.length p.cap)) (first|exact⟨q3,o1,c0,c1⟩|exact⟨ZzM q3,ZzM o1,ZzM c0,ZzM c1⟩) ((go_at_call 164;refine(HPK.o _).mono ?_;rintro e w' ⟨rfl,rfl⟩))
   all_goals go_wp2_with fail
   all_goals go_meet
   all_goals first|exact⟨_,rfl,heap_alloc_new w1 _,(Nx.rfl.alloc _).drew⟩|exact⟨_,rfl,heap_alloc_new w1 _,Nx.rfl.alloc _⟩
  obtain⟨hb,hx4,hhb,hnn⟩:=hcut;subst hx4;obtain⟨w2,hw2⟩:∃w2,w2=wc:=⟨_,rfl⟩;subst hw2;have HN2:=A (HN1.o.then hnn);have HOB2:=A (HOB.o.on hnn);have HHB:=A hhb
  have HR2:=A (ZzU HPO.o.real fun k hk=>HN2.o.block k (HPO.o.real.lt k hk).2)
  have HW2:=A (ZzU HPO.o.want fun k hk=>HN2.o.block k (HPO.o.want.lt k hk).2)
  clear o0 o1 o2 o3 o4 o5 q0 q1 q2 q3 hwl c0 c1 hhb hnn;obtain⟨o0,o1,o2,o3,o4,o5⟩:=HOB2.o.all;obtain⟨h0,h1⟩:=ZMa HHB.o;go_wp2_with fail
  refine(HPB.o _).mono ?_
  rintro e w' ⟨rfl,rfl⟩;generalize ZAE b p.l.length=pi at *;obtain⟨⟨x0,e0⟩,fz0⟩:=ZEs HR2.o hpi;obtain⟨b2,b3,b4⟩:=ZMX HOB2.o HHB.o HR2.o (i:=pi) s;have HOB3:=A b2;have HHB3:=A b3;have HBB:=A b4
  have HW3:=A (ZzU HW2.o fun k hk=>b4.block k (HW2.o.lt k hk).2 (by cases hk;exact Ne.symm HPO.o.ne))
  clear b2 b3 b4;go_upto_region 10 with fail;have HGD:=A (HWR.o w2 HN2.o);generalize w2.setCell ⟨p.nb,pi,none⟩ (J s)=w3 at *;clear o0 o1 o2 o3 o4 o5 h0 h1 e0 fz0;obtain⟨o0,o1,o2,o3,o4,o5⟩:=HOB3.o.all;obtain⟨h0,h1⟩:=ZMa HHB3.o;obtain⟨⟨x0,e0⟩,fz0⟩:=ZEs HW3.o hpi;go_wp2;exact bodyPost_end (results_none rfl _ _ _) rfl ⟨rfl,HGD.o⟩
end Go.Proofs.YtchkhibgbnhjpabGreatDoor
