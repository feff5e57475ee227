import Derived.Test.YtchkhibgbnhjpabGreatDoorT00
import Derived.Deep.AppendLies
import Derived.Laws.AppendOwnNone
open Bool renaming and_eq_true→Xm,and_true→Xu
open List renaming drop_of_length_le→Xa,drop_eq_getElem_cons→Xb,eq_nil_of_length_eq_zero→Xc,map_append→Xd,getD_eq_getElem?_getD→Xe,length_cons→Xf,getElem?_eq_getElem→Xg,length_append→Xh,mem_singleton→Xi,mem_append→Xk,length_drop→Xn,getElem_set_self→Xo,mem_cons_of_mem→Xp,foldl_nil→Xq,mem_cons→Xs,all_cons→Xt,all_nil→Xv,length_take→Xx,foldl_cons→Xy,take_of_length_le→XA,mem_cons_self→XC,getElem_mem→XD,length_set→XE,append_nil→XF
open Nat renaming zero_le→Xj,le_trans→Xl,le_refl→Xr
open Option renaming map_some→Xw
open Or renaming inr→Xz,inl→XB
open Go.Value renaming string→J,bool→C,int→I
open Go.IntKind renaming i64→X
open Go.Ending renaming returned→Y
open Go.Obj renaming cells→O
namespace Go.Proofs.YtchkhibgbnhjpabGreatDoor
open Tryz
open Go.RowKit
set_option maxHeartbeats 4000000
set_option maxRecDepth 100000
variable [Fl]
set_option linter.all false
def SchAt(w:World)(rb:Nat)(sch:ByteArray):Prop:=∃(cs:Array Value) (fz:Nat×Nat),w.heap[rb]?=some (O cs 130 fz)/\cs[0]?=some (J sch)
theorem SchAt.cell{w:World}{rb:Nat}{sch:BA}(h:SchAt w rb sch):w.cell? ⟨rb,0,none⟩=some (J sch):=by
 obtain⟨cs,fz,hh,hc⟩:=h
 simpa [World.cell?,hh]using hc
theorem SchAt.on{w w':World}{rb:Nat}{sch:BA}(h:SchAt w rb sch)(hb:Nx w w'):SchAt w' rb sch:=by obtain⟨cs,fz,hh,hc⟩:=h;exact⟨cs,fz,(hb.block rb (Array.getElem?_eq_some_iff.1 hh).1).trans hh,hc⟩
theorem SchAt.kp{w w':World}{rb:Nat}{sch:BA}(h:SchAt w rb sch)(hb:Kp 9 w w'):SchAt w' rb sch:=by
 obtain⟨cs,fz,hh,hc⟩:=h
 exact⟨cs,fz,hb.2 rb cs _ fz hh (by decide),hc⟩
def ZAH:List UInt8:=[32,34,35,60,62,63,94,96,123,125]
def ZzN(sch:List UInt8)(p:List (List UInt8)):List (List UInt8):=if p.length=1/\sch=Zzu/\drive (p.headD [])=true then p else p.dropLast
def ZzI(sch:List UInt8)(p:List (List UInt8))(s:List Int)(last:Bool):List (List UInt8):=
 if dots (encoded s ZAH)=0 then p++[if letter s=true/\sch=Zzu/\p=[]then(encoded s ZAH).take 1++[58]else encoded s ZAH]
 else if dots (encoded s ZAH)=2 then(if last then ZzN sch p++[[]]else ZzN sch p)
 else(if last then p++[[]]else p)
def ZB0(sch:List UInt8):List (List UInt8)->List (List Int)->List (List UInt8)
 | p,[]=>p
 | p,s::r=>ZB0 sch (ZzI sch p s r.isEmpty) r
def walked(sch:List UInt8)(p:List (List UInt8))(l:List Int):List (List UInt8):=ZB0 sch p (parts l (tl (Zn sch)))
theorem ZAq(sch:LB)(bs:LA):(shorter sch bs).map tl=ZzN sch (bs.map tl):=by
 unfold shorter ZzN
 have hh:(bs.map tl).headD []=tl (bs.headD ⟨#[]⟩):=by cases bs<;>rfl
 rw[List.length_map,hh]
 split
 .rfl
 .rw[List.map_dropLast]
theorem ZDa(sch:LB)(bs:LA):(shorter sch bs).length<=bs.length/\∀x∈shorter sch bs,x∈bs:=by
 unfold shorter
 split
 .exact⟨Xr _,fun _ h=>h⟩
 .exact⟨by rw[List.length_dropLast];omega,fun x h=>List.dropLast_subset _ h⟩
theorem ZBb{w:World}{base:Nat}{e:TypeId}{v:Value}{n:Nat}{xs:List Value}(h:w.ownsRow base e 1 v n xs):∃ao cap,v=.slice ao n cap:=by
 obtain⟨_,⟨rfl,rfl⟩|⟨g,cap,cur,rfl,_⟩⟩:=h
 .exact⟨_,_,rfl⟩
 .exact⟨_,_,rfl⟩
theorem ZHd(s:LB):dots s=0∨dots s=1∨dots s=2:=by
 unfold dots cands;simp only[Zdv]
 repeat (first|(split;simp)|simp)
theorem ZzS(l:LI)(t:LB):(parts l t).length<=l.length+1/\∀p∈parts l t,p.length<=l.length/\∀c∈p,c∈l:=by
 induction l with
 | nil=>
  refine⟨by simp[parts],fun p hp=>?_⟩
  simp only[parts,Xs,List.not_mem_nil,or_false]at hp;subst hp
  simp
 | cons c r ih=>
  obtain⟨ih1,ih2⟩:=ih;rw[parts]
  split
  focus
   refine⟨by simp only[Xf];omega,fun p hp=>?_⟩
   rcases Xs.1 hp with rfl|hp
   .simp
   focus
    obtain⟨h1,h2⟩:=ih2 p hp
  rotate_left
  focus
   obtain⟨a,q,hq⟩:=ZkH r t;rw[hq]at ih1 ih2 ⊢;simp only
   refine⟨by simp only[Xf]at *;omega,fun p hp=>?_⟩
   rcases Xs.1 hp with rfl|hp
   .obtain⟨h1,h2⟩:=ih2 a (XC ..)
    refine⟨by simp only[Xf];omega,fun x hx=>?_⟩
    rcases Xs.1 hx with rfl|hx
    .exact XC ..
    .exact Xp _ (h2 x hx)
   focus
    obtain⟨h1,h2⟩:=ih2 p (Xp _ hp)
  all_goals
   exact⟨by simp only[Xf];omega,fun x hx=>Xp _ (h2 x hx)⟩
theorem ZJb(set:LB)(c:Int):1<=(encPt set c).length:=by
 have h:=Zh0 c;unfold encPt
 split
 .cases hu:utf c with
  | nil=>rw[hu]at h;simp at h
  | cons x q=>simp[pct]
 .simpa using h
theorem ZDb(l:LI)(set:LB)(h:0<l.length):1<=(encoded l set).length:=by
 cases l with
 | nil=>simp at h
 | cons c r=>
  have:=ZJb set c;simp only[encoded,List.flatMap_cons,Xh]
  omega
theorem ZGa(sch:LB)(p:List LB)(ps:List LI)(k:Nat)(h:k<ps.length):ZB0 sch p (ps.drop k)=ZB0 sch (ZzI sch p ps[k] (decide (k+1=ps.length))) (ps.drop (k+1)):=by
 rw[Xb h,ZB0]
 congr 2
 rw[Bool.eq_iff_iff,List.isEmpty_iff,decide_eq_true_eq,List.drop_eq_nil_iff]
 omega
theorem Zzw(rb:Nat)(sch:BA)(p:Value)(bs:LA)(v:Value)(l:LI)(base:Nat)(w:World)(hsc:SchAt w rb sch)(hbase:base<=w.heap.size)(hown:ZbK w base p bs)
  (hbs:∀x∈bs,x.size<=1000000) (hbl:bs.length<=100000) (hv:IntsAt w v l) (hl:l.length<=80000) (hp:∀c∈l,Pt c):
  Calls prog 184 #[.pointer (some ⟨rb,0,none⟩),p,v] w fun e w'=>∃v' bs',e=Y v'/\ZbK w' base v' bs'/\bs'.map tl=walked (tl sch) (bs.map tl) l/\bs'.length<=bs.length+l.length+1/\(∀x∈bs',x.size<=1000000)/\Below base w w'/\Kp 9 w w':=by
 have hsc0:=hsc.cell;have HOWN:=A hown;have HSC:=A hsc;have HV:=A hv;have HBS:=A hbs;have hsl:=Zef (tl sch);have HW:=A (show walked (tl sch) (bs.map tl) l=ZB0 (tl sch) (bs.map tl) (parts l (tl (Zn (tl sch))))from rfl);have HPM:=A (ZzS l (tl (Zn (tl sch))));have HPP:=A hp;generalize hS:Zn (tl sch)=sl at *;have HSL:=A hS;clear hS hown hsc hv hbs hp
 go_enter func184,ntmps184
 go_wp2_with fail
 refine(Zeg _ _).mono ?_
 rintro e w1 ⟨rfl,hn1⟩;rw[HSL.o];go_wp2_with fail
 refine(ZdV _ l _ _ (Ze (by omega)) (HV.o.on hn1) (by omega)).mono ?_
 rintro e w2 ⟨vp,rfl,⟨vs,hvs,hfa⟩,hn2⟩;generalize parts l (tl sl)=ps at *;have hlen:=hfa.1;have HFA:=A hfa;have HN2:=A (hn1.then hn2);have HSC2:=A ((HSC.o.on hn1).on hn2);have HOWN2:=A (Zbw (Zbw HOWN.o hn1) hn2)
 have hz2:base<=w2.heap.size:=by have:=hn1.size;have:=hn2.size;omega
 have HMEM:=A HPM.o.2;have hpl:=HPM.o.1;clear hfa hn1 hn2 HSC HOWN HV HPM hsc0;obtain⟨ao,cap,rfl,hlc,hcap,hnone,hsome⟩:=hvs;unfold maxLen at hcap;rw[hlen];rw[hlen]at hlc;go_wp2
 go_loopw [1,9] (fun pv i wr=>∃(k:Nat) (cs:LA),k<=ps.length/\i=I X k/\ZbK wr base pv cs/\walked (tl sch) (bs.map tl) l=ZB0 (tl sch) (cs.map tl) (ps.drop k)/\cs.length<=bs.length+k/\(∀x∈cs,x.size<=1000000)/\Below base w2 wr/\Kp 9 w2 wr) (fun _ i _=>ps.length-(intOf i).toNat)
 case atStart=>exact⟨0,bs,Xj _,rfl,HOWN2.o,HW.o,by omega,HBS.o,Below.refl _ _,Kp.rfl⟩
 case round=>
  clear HW HBS HOWN2;obtain⟨k,cs,hk,rfl,hown,hE,hcl,hcs,hbw,hkp⟩:=hrel;obtain⟨po,pcap,hpe⟩:=ZBb hown;subst hpe;have HO:=A hown;have HE:=A hE;have HCS:=A hcs;have HB:=A hbw;have HK:=A hkp;have hz:=Xl hz2 hbw.size;clear hown hE hcs hbw hkp
  by_cases hlt:k<ps.length
  .obtain⟨a,ha⟩:=Zv (k:=k) (by omega) hnone
   subst ha;obtain⟨b,off,rfl,hr⟩:=hsome a rfl
   have hrw:=hr.kp HK.o (by decide)
   have hck:=hrw.cell (i:=k) (by omega)
   simp only[id]at hck
   have HVK:=A ((HFA.o.at_ hlt).kp HK.o (by decide))
   obtain⟨hm1,hm2⟩:=HMEM.o ps[k] (XD _)
   have HPK:=A (fun c (h:c∈ps[k])=>HPP.o c (hm2 c h))
   have HST:=A (ZGa (tl sch) (cs.map tl) ps k hlt);have HRW:=A hrw;clear hnone hsome hr hrw hm2;generalize ps[k]=seg at *
   by_cases hl:k+1=ps.length
   focus
    have hl':((k:Int)==(ps.length:Int)-1)=true:=by simp only[beq_iff_eq];omega
    rw[decide_eq_true hl]at HST;clear hl;go_wp2_with fail
    refine(Z5 _ seg _ _ HVK.o (Ze (by decide)) (by omega) HPK.o).mono ?_
    rintro e w3 ⟨r,rfl,hr,hn3⟩;have hr':tl r=encoded seg ZAH:=hr
    have hrs:r.size<=960000:=by have h:=Zdb seg ZAH;rw[<-hr',Za]at h;omega
    have HRR:=A hr'
    have HRP:=A (show letter seg=true->1<=r.size from fun h=>by have hh:0<seg.length:=by {cases seg with|nil=>simp[letter]at h|cons=>simp};have h2:=ZDb seg ZAH hh;rw[<-hr',Za]at h2;exact h2)
    have HN3:=A hn3;have HO3:=A (Zbw HO.o hn3);have HVK3:=A (HVK.o.on hn3)
    have hck3:=(HRW.o.on hn3).cell (i:=k) (by omega)
    simp only[id]at hck3;have HSC3:=A ((HSC2.o.kp HK.o).on hn3);have hz3:=Xl hz hn3.size;clear hr hr' hn3 hck HVK HO HRW;go_wp2_with fail
    refine(Zpe _ _ (by omega)).mono ?_
    rintro e w4 ⟨rfl,hn4⟩;rw[HRR.o];have HN4:=A (HN3.o.then hn4);have HO4:=A (Zbw HO3.o hn4);have HVK4:=A (HVK3.o.on hn4)
    have hck4:w4.cell? ⟨b,off+k,none⟩=some (vs[k]'(by omega)):=(hn4.cell (p:=⟨b,off+k,none⟩) (World.block_lt_of_cell? w3 ⟨b,off+k,none⟩ hck3)).trans hck3
    have HSC4:=A (HSC3.o.on hn4);have hz4:=Xl hz3 hn4.size;clear hn4 hck3 HVK3 HO3 HSC3 HN3;have hsc4:=HSC4.o.cell
    have hcl4:cs.length<1099511627776:=by omega
    rcases ZHd (encoded seg ZAH)with hd|hd|hd
    focus
     rw[hd]
     have HOne:=A (show ZzI (tl sch) (cs.map tl) seg true=cs.map tl++[if letter seg=true/\tl sch=Zzu/\cs.map tl=[]then(encoded seg ZAH).take 1++[58]else encoded seg ZAH]by unfold ZzI;rw[ifP hd])
     clear hd;go_wp2_with fail
     refine(Zbr _ seg _ HVK4.o).mono ?_
     rintro e w' ⟨rfl,rfl⟩;generalize hlt2:letter seg=lt at *;clear hlt2
     cases lt
     focus
      have HNew:=A (show ZzI (tl sch) (cs.map tl) seg true=cs.map tl++[tl r]by rw[HOne.o,ifN (by simp),HRR.o])
     rotate_left
     focus
      by_cases hf:tl sch=Zzu
      focus
       have hf':=eqB hf;simp only[Zzu]at hf'
       by_cases hcs0:cs=[]
       .have HNew:=A (show ZzI (tl sch) (cs.map tl) seg true=cs.map tl++[(encoded seg ZAH).take 1++[58]]by rw[HOne.o,ifP ⟨rfl,hf,by rw[hcs0];rfl⟩])
        have hc0:((cs.length:Int)==0)=true:=by rw[hcs0];rfl
        have hl1:1<=r.size:=HRP.o rfl;clear hcs0 hf
        have HYT:=A (show tl (r.extract 0 1++⟨#[58]⟩)=(encoded seg ZAH).take 1++[58]by rw[tl_append,tl_to,HRR.o];rfl)
        rw[<-HYT.o]at HNew
        have hys:(r.extract 0 1++(⟨#[58]⟩:BA)).size<=1000000:=by have h:=congrArg List.length HYT.o;rw[Za]at h;rw[h];simp;omega
        go_wp2_with (at_builtin;go_must (refine Zds w4 (r.extract 0 1++(⟨#[58]⟩:BA)) rfl _ _ rfl base (.slice po cs.length pcap) cs rfl HO4.o rfl hcl4 hz4 ?_;intro v' w5 ho5 hb5 hk5;have HO5:=A ho5;clear ho5))
        go_roundw
        exact⟨k+1,cs++[(r.extract 0 1++(⟨#[58]⟩:BA))],by omega,by go_num,HO5.o,by rw[HE.o,HST.o,HNew.o,Xd];rfl,by simp;omega,fun z hz=>by rcases Xk.1 hz with h|h;exact HCS.o z h;rw[Xi.1 h];exact hys,(HB.o.trans (HN4.o.mono hz)).trans hb5,(HK.o.then (Nx.kp HN4.o)).then hk5⟩
        simp[intOf];omega
       focus
        have HNew:=A (show ZzI (tl sch) (cs.map tl) seg true=cs.map tl++[tl r]by rw[HOne.o,ifN (fun h=>hcs0 (by have:=h.2.2;simpa using this)),HRR.o])
        have hc0:((cs.length:Int)==0)=false:=by simp only[beq_eq_false_iff_ne,ne_eq];intro h;exact hcs0 (Xc (by omega))
        clear hcs0 hf
      rotate_left
      focus
       have HNew:=A (show ZzI (tl sch) (cs.map tl) seg true=cs.map tl++[tl r]by rw[HOne.o,ifN (fun h=>hf h.2.1),HRR.o])
       have hf':=neB hf;simp only[Zzu]at hf';clear hf
    rotate_left 3
    .rw[hd]
     have HNew:=A (show ZzI (tl sch) (cs.map tl) seg true=cs.map tl++[tl ⟨#[]⟩]by unfold ZzI;rw[ifN (by omega),ifN (by omega)];rfl)
     clear hd
     go_wp2_with (at_builtin;go_must (refine Zds w4 ⟨#[]⟩ rfl _ _ rfl base (.slice po cs.length pcap) cs rfl HO4.o rfl hcl4 hz4 ?_;intro v' w5 ho5 hb5 hk5;have HO5:=A ho5;clear ho5))
     go_roundw
     exact⟨k+1,cs++[⟨#[]⟩],by omega,by go_num,HO5.o,by rw[HE.o,HST.o,HNew.o,Xd];rfl,by simp;omega,fun z hz=>by rcases Xk.1 hz with h|h;exact HCS.o z h;rw[Xi.1 h];exact(by decide),(HB.o.trans (HN4.o.mono hz)).trans hb5,(HK.o.then (Nx.kp HN4.o)).then hk5⟩
     simp[intOf];omega
    .rw[hd]
     have HSH:=A (ZDa (tl sch) cs);have HSM:=A (ZAq (tl sch) cs)
     have HNew:=A (show ZzI (tl sch) (cs.map tl) seg true=(shorter (tl sch) cs).map tl++[tl ⟨#[]⟩]by unfold ZzI;rw[ifN (by omega),ifP hd,HSM.o];rfl)
     clear hd;go_wp2_with fail
     refine(ZBn rb sch _ cs _ hsc4 (Zcf HO4.o) HCS.o (by omega)).mono ?_
     rintro e w6 ⟨v6,rfl,ho6,hn6⟩;have HO6:=A (ZCd ho6 hz4);have HN6:=A (HN4.o.then hn6);have hz6:=Xl hz4 hn6.size
     have hsl6:(shorter (tl sch) cs).length<1099511627776:=by have:=HSH.o.1;omega
     clear ho6 hn6
     go_wp2_with (at_builtin;go_must (refine Zds w6 ⟨#[]⟩ rfl _ _ rfl base v6 (shorter (tl sch) cs) rfl HO6.o rfl hsl6 hz6 ?_;intro v' w5 ho5 hb5 hk5;have HO5:=A ho5;clear ho5))
     go_roundw
     exact⟨k+1,shorter (tl sch) cs++[⟨#[]⟩],by omega,by go_num,HO5.o,by rw[HE.o,HST.o,HNew.o,Xd];rfl,by have:=HSH.o.1;simp;omega,fun z hz=>by rcases Xk.1 hz with h|h;exact HCS.o z (HSH.o.2 z h);rw[Xi.1 h];decide,(HB.o.trans (HN6.o.mono hz)).trans hb5,(HK.o.then (Nx.kp HN6.o)).then hk5⟩
     simp[intOf];omega
   rotate_left 3
   focus
    have hl':((k:Int)==(ps.length:Int)-1)=false:=by simp only[beq_eq_false_iff_ne,ne_eq];omega
    rw[decide_eq_false hl]at HST;clear hl;go_wp2_with fail
    refine(Z5 _ seg _ _ HVK.o (Ze (by decide)) (by omega) HPK.o).mono ?_
    rintro e w3 ⟨r,rfl,hr,hn3⟩;have hr':tl r=encoded seg ZAH:=hr
    have hrs:r.size<=960000:=by have h:=Zdb seg ZAH;rw[<-hr',Za]at h;omega
    have HRR:=A hr'
    have HRP:=A (show letter seg=true->1<=r.size from fun h=>by have hh:0<seg.length:=by {cases seg with|nil=>simp[letter]at h|cons=>simp};have h2:=ZDb seg ZAH hh;rw[<-hr',Za]at h2;exact h2)
    have HN3:=A hn3;have HO3:=A (Zbw HO.o hn3);have HVK3:=A (HVK.o.on hn3)
    have hck3:=(HRW.o.on hn3).cell (i:=k) (by omega)
    simp only[id]at hck3;have HSC3:=A ((HSC2.o.kp HK.o).on hn3);have hz3:=Xl hz hn3.size;clear hr hr' hn3 hck HVK HO HRW;go_wp2_with fail
    refine(Zpe _ _ (by omega)).mono ?_
    rintro e w4 ⟨rfl,hn4⟩;rw[HRR.o];have HN4:=A (HN3.o.then hn4);have HO4:=A (Zbw HO3.o hn4);have HVK4:=A (HVK3.o.on hn4)
    have hck4:w4.cell? ⟨b,off+k,none⟩=some (vs[k]'(by omega)):=(hn4.cell (p:=⟨b,off+k,none⟩) (World.block_lt_of_cell? w3 ⟨b,off+k,none⟩ hck3)).trans hck3
    have HSC4:=A (HSC3.o.on hn4);have hz4:=Xl hz3 hn4.size;clear hn4 hck3 HVK3 HO3 HSC3 HN3;have hsc4:=HSC4.o.cell
    have hcl4:cs.length<1099511627776:=by omega
    rcases ZHd (encoded seg ZAH)with hd|hd|hd
    focus
     rw[hd]
     have HOne:=A (show ZzI (tl sch) (cs.map tl) seg false=cs.map tl++[if letter seg=true/\tl sch=Zzu/\cs.map tl=[]then(encoded seg ZAH).take 1++[58]else encoded seg ZAH]by unfold ZzI;rw[ifP hd])
     clear hd;go_wp2_with fail
     refine(Zbr _ seg _ HVK4.o).mono ?_
     rintro e w' ⟨rfl,rfl⟩;generalize hlt2:letter seg=lt at *;clear hlt2
     cases lt
     focus
      have HNew:=A (show ZzI (tl sch) (cs.map tl) seg false=cs.map tl++[tl r]by rw[HOne.o,ifN (by simp),HRR.o])
     rotate_left
     focus
      by_cases hf:tl sch=Zzu
      focus
       have hf':=eqB hf;simp only[Zzu]at hf'
       by_cases hcs0:cs=[]
       .have HNew:=A (show ZzI (tl sch) (cs.map tl) seg false=cs.map tl++[(encoded seg ZAH).take 1++[58]]by rw[HOne.o,ifP ⟨rfl,hf,by rw[hcs0];rfl⟩])
        have hc0:((cs.length:Int)==0)=true:=by rw[hcs0];rfl
        have hl1:1<=r.size:=HRP.o rfl;clear hcs0 hf
        have HYT:=A (show tl (r.extract 0 1++⟨#[58]⟩)=(encoded seg ZAH).take 1++[58]by rw[tl_append,tl_to,HRR.o];rfl)
        rw[<-HYT.o]at HNew
        have hys:(r.extract 0 1++(⟨#[58]⟩:BA)).size<=1000000:=by have h:=congrArg List.length HYT.o;rw[Za]at h;rw[h];simp;omega
        go_wp2_with (at_builtin;go_must (refine Zds w4 (r.extract 0 1++(⟨#[58]⟩:BA)) rfl _ _ rfl base (.slice po cs.length pcap) cs rfl HO4.o rfl hcl4 hz4 ?_;intro v' w5 ho5 hb5 hk5;have HO5:=A ho5;clear ho5))
        go_roundw
        exact⟨k+1,cs++[(r.extract 0 1++(⟨#[58]⟩:BA))],by omega,by go_num,HO5.o,by rw[HE.o,HST.o,HNew.o,Xd];rfl,by simp;omega,fun z hz=>by rcases Xk.1 hz with h|h;exact HCS.o z h;rw[Xi.1 h];exact hys,(HB.o.trans (HN4.o.mono hz)).trans hb5,(HK.o.then (Nx.kp HN4.o)).then hk5⟩
        simp[intOf];omega
       focus
        have HNew:=A (show ZzI (tl sch) (cs.map tl) seg false=cs.map tl++[tl r]by rw[HOne.o,ifN (fun h=>hcs0 (by have:=h.2.2;simpa using this)),HRR.o])
        have hc0:((cs.length:Int)==0)=false:=by simp only[beq_eq_false_iff_ne,ne_eq];intro h;exact hcs0 (Xc (by omega))
        clear hcs0 hf
      rotate_left
      focus
       have HNew:=A (show ZzI (tl sch) (cs.map tl) seg false=cs.map tl++[tl r]by rw[HOne.o,ifN (fun h=>hf h.2.1),HRR.o])
       have hf':=neB hf;simp only[Zzu]at hf';clear hf
    rotate_left 3
    .rw[hd]
     have HNew:=A (show ZzI (tl sch) (cs.map tl) seg false=cs.map tl by unfold ZzI;rw[ifN (by omega),ifN (by omega)];rfl)
     clear hd;go_wp2
     go_roundw
     exact⟨k+1,cs,by omega,by go_num,HO4.o,by rw[HE.o,HST.o,HNew.o],by omega,HCS.o,HB.o.trans (HN4.o.mono hz),HK.o.then (Nx.kp HN4.o)⟩
     simp[intOf];omega
    .rw[hd]
     have HSH:=A (ZDa (tl sch) cs);have HSM:=A (ZAq (tl sch) cs)
     have HNew:=A (show ZzI (tl sch) (cs.map tl) seg false=(shorter (tl sch) cs).map tl by unfold ZzI;rw[ifN (by omega),ifP hd,HSM.o];rfl)
     clear hd;go_wp2_with fail
     refine(ZBn rb sch _ cs _ hsc4 (Zcf HO4.o) HCS.o (by omega)).mono ?_
     rintro e w6 ⟨v6,rfl,ho6,hn6⟩;have HO6:=A (ZCd ho6 hz4);have HN6:=A (HN4.o.then hn6);clear ho6 hn6;go_wp2
     go_roundw
     exact⟨k+1,shorter (tl sch) cs,by omega,by go_num,HO6.o,by rw[HE.o,HST.o,HNew.o],by have:=HSH.o.1;omega,fun z hz=>HCS.o z (HSH.o.2 z hz),HB.o.trans (HN6.o.mono hz),HK.o.then (Nx.kp HN6.o)⟩
     simp[intOf];omega
   all_goals
    go_wp2_with (at_builtin;go_must (refine Zds w4 r rfl _ _ rfl base (.slice po cs.length pcap) cs rfl HO4.o rfl hcl4 hz4 ?_;intro v' w5 ho5 hb5 hk5;have HO5:=A ho5;clear ho5))
    go_roundw
    exact⟨k+1,cs++[r],by omega,by go_num,HO5.o,by rw[HE.o,HST.o,HNew.o,Xd];rfl,by simp;omega,fun z hz=>by rcases Xk.1 hz with h|h;exact HCS.o z h;rw[Xi.1 h];exact(by omega:r.size<=1000000),(HB.o.trans (HN4.o.mono hz)).trans hb5,(HK.o.then (Nx.kp HN4.o)).then hk5⟩
    simp[intOf];omega
  .have HF:=A (show walked (tl sch) (bs.map tl) l=cs.map tl by rw[HE.o,Xa (by omega),ZB0])
   go_wp2;go_ret
   exact⟨_,cs,rfl,HO.o,HF.o.symm,by omega,HCS.o,(HN2.o.mono hbase).trans HB.o,(Nx.kp HN2.o).then HK.o⟩
def dgo(n c:Int):Int:=10*n+c-48
def byteBad(p:List Int):Bool:=ZP p==false||decide (3<p.length)||(decide (1<p.length)&&p.headD 0==48)
def ZBB(p:List Int):Option Int:=if byteBad p then none else if 255<p.foldl dgo 0 then none else some (p.foldl dgo 0)
def Zzx:List (List Int)->Option (List Int)
 | []=>some []
 | p::r=>match ZBB p with
  | none=>none
  | some b=>(Zzx r).map (b :: ·)
def RowN(w:World)(nb:Nat)(ns:List Int):Prop:=w.heap[nb]?=some (O (ns.map (Value.int .i64)).toArray 3 (0,0))
theorem RowN.cell{w:World}{nb:Nat}{ns:LI}(h:RowN w nb ns){i:Nat}(hi:i<ns.length):w.cell? ⟨nb,i,none⟩=some (I X ns[i]):=by
 unfold RowN at h
 simp[World.cell?,h,Xg hi]
theorem RowN.free{w:World}{nb:Nat}{ns:LI}(h:RowN w nb ns)(i:Nat):w.frozen? ⟨nb,i,none⟩=false:=by
 unfold RowN at h
 simp[World.frozen?,h]
theorem RowN.set{w:World}{nb:Nat}{ns:LI}(h:RowN w nb ns)(i:Nat)(x:Int):RowN (w.setCell ⟨nb,i,none⟩ (I X x)) nb (ns.set i x):=by
 unfold RowN at *;simp only[World.setCell,Array.getElem?_modify,ifP,h]
 simp[List.map_set]
theorem ZCe(p:LI)(h:p.all numeral=true)(hl:p.length<=3):0<=p.foldl dgo 0/\p.foldl dgo 0<=999:=by
 match p,hl with
 | [],_=>exact⟨by decide,by decide⟩
 | [a],_=>
  simp only[Xt,Xv,Xu,numeral,decide_eq_true_eq]at h;simp only[Xy,Xq,dgo];omega
 | [a,b],_=>
  simp only[Xt,Xv,Xu,numeral,Xm,decide_eq_true_eq]at h;simp only[Xy,Xq,dgo];omega
 | [a,b,c],_=>
  simp only[Xt,Xv,Xu,numeral,Xm,decide_eq_true_eq]at h;simp only[Xy,Xq,dgo];omega
theorem ZNB(w:World):(Instr.makeSlice 124 (I X 4) (I X 4)).run prog w=.ok (.slice (some ⟨w.heap.size,0,none⟩) 4 4) (w.alloc (.cells #[I X 0,I X 0,I X 0,I X 0] 3)):=by kernel_rfl
theorem ZCO{p:LI}(h1:1<p.length)(h2:p.headD 0=48):byteBad p=true:=by unfold byteBad;rw[decide_eq_true h1,h2];simp
theorem ZDU{p:LI}(ha:ZP p=true)(h3:¬3<p.length)(h1:¬(1<p.length/\p.headD 0=48)):byteBad p=false:=by
 unfold byteBad;rw[ha,decide_eq_false h3]
 by_cases h:1<p.length
 .have:¬p.headD 0=48:=fun e=>h1 ⟨h,e⟩
  simp only[Bool.or_eq_false_iff,Bool.and_eq_false_iff,beq_eq_false_iff_ne,ne_eq]
  exact⟨⟨by decide,trivial⟩,Xz this⟩
 .rw[decide_eq_false h];rfl
theorem ZHj{p:LI}(h:0<p.length):p.headD 0=p[0]:=by
 cases p with
 | nil=>simp at h
 | cons=>rfl
theorem ZzM{w:World}{o:Obj}{p:Addr}{u:Value}(h:w.cell? p=some u):(w.alloc o).drew.cell? p=some u:=
 ((Nx.rfl.alloc o).cell (World.block_lt_of_cell? w p h)).trans h
theorem ZEx{n:Int}(h0:0<=n)(h1:n<=1000000):IntKind.i64.wrap n=n:=by rw[IntWalk.i64_left,IntWalk.wrap64_in n ⟨by omega,by omega⟩]
theorem ZCP(ps:List LI)(k:Nat)(h:k<ps.length):Zzx (ps.drop k)=match ZBB ps[k]with|none=>none|some b=>(Zzx (ps.drop (k+1))).map (b :: ·):=by rw[Xb h,Zzx]
theorem ZE5{ps:List LI}{ns:LI}{k:Nat}{x:Int}(hk:k<ps.length)(hl:k<ns.length)(hE:Zzx ps=(Zzx (ps.drop k)).map (ns.take k++·))(hb:ZBB ps[k]=some x):Zzx ps=(Zzx (ps.drop (k+1))).map ((ns.set k x).take (k+1)++·):=by
 rw[hE,ZCP ps k hk,hb]
 have e:(ns.set k x).take (k+1)=ns.take k++[x]:=by rw[List.take_succ_eq_append_getElem (by simpa using hl),Xo,List.take_set_of_le (Xr _)]
 rw[e]
 cases Zzx (ps.drop (k+1))<;>simp
theorem ZBo{ps:List LI}{ns:LI}{k:Nat}(hk:k<ps.length)(hE:Zzx ps=(Zzx (ps.drop k)).map (ns.take k++·))(hb:ZBB ps[k]=none):Zzx ps=none:=by
 rw[hE,ZCP ps k hk,hb]
 rfl
theorem ZKW{ns:LI}{k:Nat}(h:ns.getD k 0=0):ns.set k 0=ns:=by
 apply List.ext_getElem
 .simp
 .intro i h1 h2
  by_cases e:k=i
  .subst e
   rw[Xo];rw[Xe,Xg h2]at h;exact h.symm
  .rw[List.getElem_set_ne e]
theorem ZNa{α:Type}{e:TypeId}{f:α->Value}{w:World}{v:Value}{l:List α}{b off cap:Nat}(h:SlAt e f w v l)(hv:v=.slice (some ⟨b,off,none⟩) l.length cap)(_hl:0<l.length):RowAt e f w b off l:=by obtain⟨ao,c,e1,_,_,_,hs⟩:=h;rw[hv]at e1;simp only[Value.slice.injEq]at e1;obtain⟨b',off',ea,hr⟩:=hs _ e1.1.symm;simp only[Addr.mk.injEq]at ea;obtain⟨rfl,rfl,_⟩:=ea;exact hr
theorem ZJd{ns:LI}{k:Nat}{x:Int}(h:∀j,k<=j->ns.getD j 0=0):∀j,k+1<=j->(ns.set k x).getD j 0=0:=by
 intro j hj
 rw[Xe,List.getElem?_set_ne (by omega),<-Xe]
 exact h j (by omega)
theorem ZKX{ns:LI}{k:Nat}{x:Int}(h:∀y∈ns,0<=y/\y<=255)(h0:0<=x)(h1:x<=255):∀y∈ns.set k x,0<=y/\y<=255:=by
 intro y hy;rcases List.mem_or_eq_of_mem_set hy with hy|rfl
 .exact h y hy
 .exact⟨h0,h1⟩
theorem ZHW(w:World):RowN (w.alloc (.cells #[I X 0,I X 0,I X 0,I X 0] 3)) w.heap.size [0,0,0,0]:=heap_alloc_new w _
theorem ZDc{ps:List LI}{q:LI}(h:Zzx ps=some q):ps.length=q.length:=by
 induction ps generalizing q with
 | nil=>simp only[Zzx,Option.some.injEq]at h;subst h;rfl
 | cons p r ih=>
  rw[Zzx]at h
  split at h
  .cases h
  .cases hr:Zzx r with
   | none=>rw[hr]at h;cases h
   | some z=>rw[hr]at h;simp only[Xw,Option.some.injEq]at h;subst h;simp[ih hr]
def dotted(l:List Int):List Int×Bool:=
 match Zzx (parts l [46])with
 | some [a,b,c,d]=>([256*a+b,256*c+d],true)
 | _=>([],false)
theorem ZHX(v:Value)(l:LI)(w:World)(hv:IntsAt w v l)(hn:l.length<=100000):Calls prog 285 #[v] w fun e w'=>∃v',e=Y (.tuple #[v',C (dotted l).2])/\IntsAt w' v' (dotted l).1/\Nx w w':=by
 have hmk:=ZNB
 go_enter func285,ntmps285
 go_wp2_with fail
 refine(ZdV _ l _ _ (Ze (by decide)) hv (by omega)).mono ?_
 rintro e w1 ⟨vp,rfl,⟨vs,hvs,hfa⟩,hn1⟩
 have HD:=A (show dotted l=match Zzx (parts l (tl ⟨#[46]⟩))with|some [a,b,c,d]=>([256*a+b,256*c+d],true)|_=>([],false)from rfl)
 generalize parts l (tl ⟨#[46]⟩)=ps at *;have hlen:=hfa.1
 by_cases h4:ps.length=4
 .obtain⟨b,off,cap,rfl,hlc,hcap,hr⟩:=hvs.open_ (k:=0) (by omega)
  have h4':vs.length=4:=by omega
  rw[h4'];unfold maxLen at hcap;have HFA:=A hfa;have HR:=A hr;have HL4:=A h4;have HV4:=A h4';have HN1:=A hn1;clear hr hfa hvs hlc hlen h4 h4' hn1 hv;go_wp2;clear hmk
  go_loopw [6] (fun i wr=>∃(k:Nat) (ns:LI),k<=4/\i=I X k/\ns.length=4/\RowN wr w1.heap.size ns/\(∀j,k<=j->ns.getD j 0=0)/\(∀x∈ns,0<=x/\x<=255)/\Zzx ps=(Zzx (ps.drop k)).map (ns.take k++·)/\Below w1.heap.size w1 wr) (fun i _=>4-(intOf i).toNat)
  case atStart=>
   refine⟨0,[0,0,0,0],by omega,rfl,rfl,ZHW w1,fun j _=>?_,by simp,by simp,Nx.rfl.alloc _⟩
   match j with
   | 0=>rfl
   | 1=>rfl
   | 2=>rfl
   | 3=>rfl
   | j+4=>rfl
  case round=>
   obtain⟨k,ns,hk,rfl,hns,hrow,hzero,hrng,hE,hbl⟩:=hrel
   by_cases hlt:k<4
   .have hkp:k<ps.length:=by rw[HL4.o];exact hlt
    have hkv:k<vs.length:=by rw[HV4.o];exact hlt
    have hck:=((HR.o.on hbl).cell hkv);simp only[id]at hck;have HVK:=A ((HFA.o.at_ hkp).on hbl);have HROW:=A hrow;have HZ:=A (hzero k (Xr _));have HZ2:=A hzero;have HRNG:=A hrng;have HE:=A hE;have HBL:=A hbl
    have HBP:Hid (ZBB ps[k]=if byteBad ps[k]then none else if 255<ps[k].foldl dgo 0 then none else some (ps[k].foldl dgo 0)):=rfl
    clear hrow hzero hE hbl hrng;generalize hpk:ps[k]=p at *
    cases hall:ZP p
    .have HF:=A (show dotted l=([],false)by rw[HD.o,ZBo hkp HE.o (by rw[hpk,HBP.o];simp[byteBad,hall])])
     clear hpk
     go_wp2_with (go_at_call 250;refine(ZaN _ p _ HVK.o).mono ?_;rintro e w' ⟨rfl,rfl⟩)
     go_ret2
     exact⟨_,by rw[HF.o];rfl,by rw[HF.o];exact SlAt.nil _,HN1.o.then HBL.o⟩
    .have hp0:0<p.length:=by
      cases p with
      | nil=>simp[ZP]at hall
      | cons=>simp
     obtain⟨pb,poff,pcap,hvk,hplc,hpcap,hprow⟩:=HVK.o.open_ hp0;unfold maxLen at hpcap;rw[hvk]at hck;have HPROW:=A hprow;have HVE:=A hvk;have HPROW1:=A (ZNa ((hpk ▸ HFA.o.at_ hkp:IntsAt w1 (vs[k]) p)) hvk hp0);have HVK2:=HVK;rw[hvk]at HVK2;clear hprow hvk
     have hnum:p.all numeral=true:=by unfold ZP at hall;rw[Xm]at hall;exact hall.1
     have hcp0:=HPROW.o.cell hp0;simp only[Nat.add_zero]at hcp0
     by_cases hl3:3<p.length
     focus
      have HF:=A (show dotted l=([],false)by rw[HD.o,ZBo hkp HE.o (by rw[hpk,HBP.o];simp[byteBad,hl3])])
      clear hpk hnum
     rotate_left
     focus
      have hnum3:∀m,(p.take m).all numeral=true:=fun m=>by
       rw[List.all_eq_true]at hnum ⊢
       exact fun x hx=>hnum x (List.mem_of_mem_take hx)
      have HNUM:=A hnum3
      have HDR:=A (fun m=>ZCe (p.take m) (hnum3 m) (by have:=List.length_take_le m p;rw[Xx];omega))
      clear hnum hnum3
      by_cases hbad:1<p.length/\p[0]=48
      focus
       obtain⟨hb1,hb2⟩:=hbad
       have HF:=A (show dotted l=([],false)by rw[HD.o,ZBo hkp HE.o (by rw[hpk,HBP.o,ifP (ZCO hb1 (by rw[ZHj hp0];exact hb2))])])
       rw[hb2]at hcp0;clear hpk hb2
      rotate_left
      .have HGOOD:=A (show ZBB ps[k]=if 255<p.foldl dgo 0 then none else some (p.foldl dgo 0)by rw[hpk,HBP.o,ZDU hall hl3 (fun h=>hbad ⟨h.1,by rw[<-ZHj hp0];exact h.2⟩)];rfl)
       have hdec:p.length<=1∨(1<p.length/\(p[0]==48)=false):=by
        by_cases h:1<p.length
        .exact Xz ⟨h,by have:¬p[0]=48:=fun e=>hbad ⟨h,e⟩;simpa using this⟩
        .left;omega
       clear hbad hpk;rcases hdec with hd|⟨hd1,hd2⟩
       rotate_left
       all_goals
        go_wp2_with (go_at_call 250;refine(ZaN _ p _ HVK2.o).mono ?_;rintro e w' ⟨rfl,rfl⟩)
        go_loopw [8] (fun j wr=>∃m:Nat,m<=p.length/\j=I X m/\RowN wr w1.heap.size (ns.set k ((p.take m).foldl dgo 0))/\Below w1.heap.size w1 wr) (fun j _=>p.length-(intOf j).toNat)
        case atStart=>exact⟨0,Xj _,rfl,by rw[List.take_zero,Xq,ZKW HZ.o];exact HROW.o,HBL.o⟩
        case round=>
         clear HROW HBL hck hcp0;obtain⟨m,hm,rfl,hrow,hbl⟩:=hrel;obtain⟨hx0,hx1⟩:=HDR.o m
         have hcn:=hrow.cell (i:=k) (by rw[XE,hns];exact hlt)
         rw[Xo]at hcn;have hfz:=hrow.free k;have hck:=((HR.o.on hbl).cell hkv);simp only[id]at hck;rw[HVE.o]at hck
         by_cases hml:m<p.length
         .have hcp:=(HPROW1.o.on hbl).cell hml
          have hnm:=HNUM.o (m+1);rw[Zai p m hml,List.all_append,Xm]at hnm;have hnm2:=hnm.2;simp only[Xt,Xv,Xu,numeral,decide_eq_true_eq]at hnm2;obtain⟨hn48,hn57⟩:=hnm2
          have HFS:=A (show(p.take (m+1)).foldl dgo 0=10*(p.take m).foldl dgo 0+p[m]-48 by rw[Zai p m hml,List.foldl_append];rfl)
          have HRW:=A hrow;have HBW:=A hbl;clear hrow hbl hnm;generalize (p.take m).foldl dgo 0=x at *;have hbB:b<w1.heap.size:=HR.o.lt;have hpB:pb<w1.heap.size:=HPROW1.o.lt;go_wp2
          go_region
          all_goals go_wp2
          all_goals go_roundw
          exact⟨m+1,by omega,by go_num,by have h:=HRW.o.set k (10*x+p[m]-48);rw[List.set_set]at h;rw[HFS.o];exact h,(HBW.o.setCell (p:=⟨w1.heap.size,k,none⟩) (Xr _) _).drew⟩
          simp[intOf];omega
         .have hmp:p.take m=p:=XA (by omega)
          rw[hmp]at hrow hx0 hx1 hcn;clear hmp;have HRW:=A hrow;have HBW:=A hbl;clear hrow hbl
          by_cases hbig:255<p.foldl dgo 0
          .have HF:=A (show dotted l=([],false)by rw[HD.o,ZBo hkp HE.o (by rw[HGOOD.o,ifP hbig])])
           generalize p.foldl dgo 0=x at *;go_wp2;go_ret2
           exact⟨_,by rw[HF.o];rfl,by rw[HF.o];exact SlAt.nil _,HN1.o.then HBW.o⟩
          .have HNX:=A (ZE5 hkp (by rw[hns];exact hlt) HE.o (HGOOD.o.trans (ifN hbig)))
           generalize p.foldl dgo 0=x at *;go_wp2
           go_roundw
           exact⟨k+1,ns.set k x,by omega,by go_num,by rw[XE];exact hns,HRW.o,ZJd HZ2.o,ZKX HRNG.o hx0 (by omega),HNX.o,HBW.o⟩
           simp[intOf];omega
     all_goals
      go_wp2_with (go_at_call 250;refine(ZaN _ p _ HVK2.o).mono ?_;rintro e w' ⟨rfl,rfl⟩)
      go_ret2
      exact⟨_,by rw[HF.o];rfl,by rw[HF.o];exact SlAt.nil _,HN1.o.then HBL.o⟩
   .have hk4:k=4:=by omega
    subst hk4
    rw[Xa (by rw[HL4.o];omega),XA (by omega)]at hE
    simp only[Zzx,Xw,XF]at hE
    match ns,hns with
    | [n0,n1,n2,n3],_=>
     have c0:=hrow.cell (i:=0) (by simp)
     have c1:=hrow.cell (i:=1) (by simp)
     have c2:=hrow.cell (i:=2) (by simp)
     have c3:=hrow.cell (i:=3) (by simp)
     simp only[List.getElem_cons_zero,List.getElem_cons_succ]at c0 c1 c2 c3
     have HF:=A (show dotted l=([256*n0+n1,256*n2+n3],true)by rw[HD.o,hE])
     clear hE hrow;have HBL:=A hbl
     obtain⟨r00,r01⟩:=hrng n0 (by simp)
     obtain⟨r10,r11⟩:=hrng n1 (by simp)
     obtain⟨r20,r21⟩:=hrng n2 (by simp)
     obtain⟨r30,r31⟩:=hrng n3 (by simp)
     clear hbl hrng hzero
     have q0:=ZEx (n:=256*n0) (by omega) (by omega)
     have q1:=ZEx (n:=256*n0+n1) (by omega) (by omega)
     have q2:=ZEx (n:=256*n2) (by omega) (by omega)
     have q3:=ZEx (n:=256*n2+n3) (by omega) (by omega)
     go_wp2
     go_region_held (fun w'=>w'.cell? ⟨w1.heap.size,0,none⟩=some (I X n0)/\w'.cell? ⟨w1.heap.size,1,none⟩=some (I X n1)/\w'.cell? ⟨w1.heap.size,2,none⟩=some (I X n2)/\w'.cell? ⟨w1.heap.size,3,none⟩=some (I X n3)) (first|exact⟨c0,c1,c2,c3⟩|exact⟨ZzM c0,ZzM c1,ZzM c2,ZzM c3⟩) (fail)
     all_goals go_wp2
     all_goals go_ret2
     all_goals exact⟨_,by rw[HF.o];rfl,by rw[HF.o];exact Zle wr [256*n0+n1,256*n2+n3] _ (by simp) rfl,((HN1.o.then HBL.o).alloc _).drew⟩
 .have HF:=A (show dotted l=([],false)by
   rw[HD.o]
   split
   .rename_i a b c d h
    exact absurd (ZDc h) h4
   .rfl)
  obtain⟨ao,cap,rfl,hlc,hcap,_,_⟩:=hvs;unfold maxLen at hcap
  have h4':((vs.length:Int) != 4)=true:=by simp only[bne_iff_ne,ne_eq];omega
  clear h4 hmk;go_wp2;go_ret2
  exact⟨_,by rw[HF.o];rfl,by rw[HF.o];exact SlAt.nil _,hn1⟩
def ZAo:Int->List Int->Option Int
 | v,[]=>some v
 | v,c::r=>if digit c<0 then none else ZAo (16*v+digit c) r
def ZzX(p:List Int):Option Int:=if p.length<1∨4<p.length then none else ZAo 0 p
def grpGoR(en:Bool):List (List Int)->Option (List Int)
 | []=>some []
 | p::r=>
  if(cut p [46]).2.2=true/\en=true/\r=[]then(if(dotted p).2 then some (dotted p).1 else none)
  else match ZzX p with
   | none=>none
   | some v=>(grpGoR en r).map (v :: ·)
def groups(l:List Int)(en:Bool):List Int×Bool:=
 if l=[]then([],true)else match grpGoR en (parts l [58])with|some q=>(q,true)|none=>([],false)
theorem ZHY{en:Bool}{ps:List LI}{k:Nat}(hk:k<ps.length)(h1:(cut ps[k] [46]).2.2=true)(h2:en=true)(h3:k+1=ps.length):grpGoR en (ps.drop k)=if(dotted ps[k]).2 then some (dotted ps[k]).1 else none:=by rw[Xb hk,grpGoR,ifP ⟨h1,h2,List.drop_eq_nil_of_le (by omega)⟩]
theorem ZHZ{en:Bool}{ps:List LI}{k:Nat}(hk:k<ps.length)(h:¬((cut ps[k] [46]).2.2=true/\en=true/\k+1=ps.length)):grpGoR en (ps.drop k)=match ZzX ps[k]with|none=>none|some v=>(grpGoR en (ps.drop (k+1))).map (v :: ·):=by
 rw[Xb hk,grpGoR,ifN];rintro⟨a,b,c⟩
 refine h ⟨a,b,?_⟩
 have:=congrArg List.length c;rw[Xn,List.length_nil]at this
 omega
theorem ZCv{v:Int}{p:LI}{k:Nat}(hk:k<p.length):ZAo v (p.drop k)=if digit p[k]<0 then none else ZAo (16*v+digit p[k]) (p.drop (k+1)):=by rw[Xb hk,ZAo]
theorem ZHk{ops:Array Oper}{rest:List Oper}{o:Oper}{a:Act}{Q:Exit->Act->World->Prop}(w:World)(ys:LI)(b off:Nat)(hrow:RowAt 3 (Value.int .i64) w b off ys)
  (hgd:o.guard=none) (s x:Operand) (ho:o.op=.call { callee:=.builtin .append,args:=#[s,x],argTypes:=#[124,124] })
  (base:Nat) (v:Value) (l:LI) (hs:a.eval s=v) (hown:OwnI w base v l) (c:Nat) (hx:a.eval x=.slice (some ⟨b,off,none⟩) ys.length c)
  (hn:l.length+ys.length<1099511627776) (hbase:base<=w.heap.size)
  (h:∀v' w',OwnI w' base v' (l++ys)->Below base w w'->wpList prog ops Q rest (a.put o.dst v') w'):wpList prog ops Q (o::rest) a w:=by
 refine ZdC w _ _ (I X 0) 8 underlying124 ZfA rfl hgd s x ho base v l.length _ hs hown ⟨b,off,none⟩ ys.length c (ys.map (Value.int .i64)) hx (by simp) ?_ ?_ (by omega) (by decide) hbase ?_
 .intro j u hu
  rw[Addr.add_lit]
  have hj:j<ys.length:=by have:=(List.getElem?_eq_some_iff.1 hu).1;simpa using this
  rw[hrow.cell hj]
  simp[Xg hj]at hu
  rw[hu]
 .intro u hu
  obtain⟨x,_,rfl⟩:=List.mem_map.1 hu
  rfl
 .intro v' w' h1 h2 _
  refine h v' w' ?_ h2
  unfold OwnI;rw[Xh,Xd];exact h1
theorem ZDd{vv d:Int}{m:Nat}(h:vv+1<=16^m)(hd:d<=15):16*vv+d+1<=16^(m+1):=by
 have e:(16:Int)^(m+1)=16*16^m:=by rw[Int.pow_succ,Int.mul_comm]
 rw[e]
 omega
theorem ZDe{vv:Int}{m:Nat}(h:vv+1<=16^m)(hm:m<=4):vv<=65535:=by
 match m,hm with
 | 0,_=>simp at h;omega
 | 1,_=>simp at h;omega
 | 2,_=>simp at h;omega
 | 3,_=>simp at h;omega
 | 4,_=>simp at h;omega
theorem ZDV{p:LI}(h:(dotted p).2=true):(dotted p).1.length=2:=by
 unfold dotted at *
 split at h
 .rfl
 .cases h
theorem ZBM(v:Value)(l:LI)(en:Bool)(w:World)(hv:IntsAt w v l)(hl:l.length<=80000):Calls prog 245 #[v,C en] w fun e w'=>∃v',e=Y (.tuple #[v',C (groups l en).2])/\OwnI w' w.heap.size v' (groups l en).1/\Nx w w':=by
 by_cases h0:l=[]
 .subst h0
  obtain⟨ao,cap,rfl,hlc,hcap,_,_⟩:=hv
  go_enter func245,ntmps245
  go_wp2;go_ret2;exact⟨_,rfl,World.ownsRow_nil _ _ _ _,Nx.rfl⟩
 have hl0:((l.length:Int)==0)=false:=by simp only[beq_eq_false_iff_ne,ne_eq];intro h;exact h0 (Xc (by omega))
 have HG:=A (show groups l en=match grpGoR en (parts l (tl ⟨#[58]⟩))with|some q=>(q,true)|none=>([],false)by unfold groups;rw[ifN h0];rfl)
 have HPM:=A (ZzS l (tl ⟨#[58]⟩));have HV:=A hv;clear h0;obtain⟨lo,lcap,rfl,hllc,hlcap,_,_⟩:=hv;unfold maxLen at hlcap
 go_enter func245,ntmps245
 go_wp2_with fail
 refine(ZdV _ l _ _ (Ze (by decide)) HV.o (by omega)).mono ?_
 rintro e w1 ⟨vp,rfl,⟨vs,hvs,hfa⟩,hn1⟩;generalize parts l (tl ⟨#[58]⟩)=ps at *;have hlen:=hfa.1;have HFA:=A hfa;have HN1:=A hn1;have HMEM:=A HPM.o.2;have hpl:=HPM.o.1;have hz1:=hn1.size;clear hfa hn1 HPM HV;obtain⟨ao,cap,rfl,hlc,hcap,hnone,hsome⟩:=hvs;unfold maxLen at hcap;rw[hlen];rw[hlen]at hlc;go_wp2
 go_loopw [6,8] (fun o i wr=>∃(k:Nat) (q:LI),k<=ps.length/\i=I X k/\OwnI wr w1.heap.size o q/\grpGoR en ps=(grpGoR en (ps.drop k)).map (q++·)/\q.length<=2*k/\Nx w1 wr) (fun _ i _=>ps.length-(intOf i).toNat)
 case atStart=>exact⟨0,[],Xj _,rfl,World.ownsRow_nil _ _ _ _,by simp,by simp,Nx.rfl⟩
 case round=>
  obtain⟨k,q,hk,rfl,hown,hE,hql,hnx⟩:=hrel;have HO:=A hown;have HE:=A hE;have HN:=A hnx;clear hown hE hnx
  by_cases hlt:k<ps.length
  .obtain⟨a,ha⟩:=Zv (k:=k) (by omega) hnone
   subst ha;obtain⟨b,off,rfl,hr⟩:=hsome a rfl
   have hck:=(hr.on HN.o).cell (i:=k) (by omega)
   simp only[id]at hck;have HVK:=A ((HFA.o.at_ hlt).on HN.o);obtain⟨hm1,hm2⟩:=HMEM.o ps[k] (XD _);have HROW:=A (hr.on HN.o);clear hnone hsome hr hm2
   obtain⟨po,pcap,hpv⟩:∃po pcap,vs[k]=.slice po ps[k].length pcap:=by obtain⟨po,pcap,e,_⟩:=HVK.o;exact⟨po,pcap,e⟩
   have HPV:=A hpv;clear hpv
   have HDOT:=A (fun(h1:(cut ps[k] [46]).2.2=true) (h2:en=true) (h3:k+1=ps.length)=>ZHY hlt h1 h2 h3)
   have HGRP:=A (fun(h:¬((cut ps[k] [46]).2.2=true/\en=true/\k+1=ps.length))=>ZHZ (en:=en) hlt h)
   generalize ps[k]=p at *;go_wp2_with fail
   refine(ZbY _ p _ _ (Ze (by decide)) HVK.o).mono ?_
   rintro e w2 ⟨c1,c2,rfl,_,_,hn2⟩;rw[show tl ⟨#[46]⟩=[46]from rfl];have HN2:=A (HN.o.then hn2);have HO2:=A (Zbw HO.o hn2);have HVK2:=A (HVK.o.on hn2)
   have hck2:=(HROW.o.on hn2).cell (i:=k) (by omega)
   simp only[id]at hck2;have HROW2:=A (HROW.o.on hn2);have hz2:=HN2.o.size;clear hn2 hck HO HVK HROW HN;generalize hdot:(cut p [46]).2.2=dot at *;clear hdot
   by_cases hD:dot=true/\en=true/\k+1=ps.length
   .obtain⟨rfl,rfl,hlast⟩:=hD
    have HQ:=A (HDOT.o rfl rfl hlast)
    have hl':((k:Int)==(ps.length:Int)-1)=true:=by simp only[beq_iff_eq];omega
    have HNILS:=A (show ps.drop (k+1)=[]from Xa (by omega))
    have HTWO:=A (ZDV (p:=p));clear hlast HGRP HDOT;go_wp2_with fail
    refine(ZHX _ p _ HVK2.o (by omega)).mono ?_
    rintro e w3 ⟨v3,rfl,hv3,hn3⟩;generalize dotted p=dd at *;obtain⟨dq,ok⟩:=dd;simp only at *;have HN3:=A (HN2.o.then hn3);have HO3:=A (Zbw HO2.o hn3);have hz3:=HN3.o.size;clear hn3
    cases ok
    .have HF:=A (show groups l true=([],false)by rw[HG.o,HE.o,HQ.o];rfl)
     go_wp2;go_ret2
     exact⟨_,by rw[HF.o];rfl,by rw[HF.o];exact World.ownsRow_nil _ _ _ _,HN1.o.then HN3.o⟩
    .have h2:=HTWO.o rfl
     obtain⟨db,doff,dcap,rfl,hdlc,hdcap,hdrow⟩:=hv3.open_ (k:=0) (by omega)
     have HDR:=A hdrow
     have HNXT:=A (show grpGoR true ps=(grpGoR true (ps.drop (k+1))).map (q++dq++·)by rw[HE.o,HQ.o,HNILS.o];simp[grpGoR])
     have hqd:q.length+dq.length<1099511627776:=by omega
     have hq2:q.length+dq.length<=2*(k+1):=by omega
     clear hdrow hv3 h2
     go_wp2_with (at_builtin;go_must (refine ZHk w3 dq db doff HDR.o rfl _ _ rfl w1.heap.size u6 q rfl HO3.o dcap rfl hqd hz3 ?_;intro v' w5 ho5 hb5;have HO5:=A ho5;clear ho5))
     go_roundw
     exact⟨k+1,q++dq,by omega,by go_num,HO5.o,HNXT.o,by rw[Xh];exact hq2,HN3.o.trans hb5⟩
     simp[intOf];omega
   have HND:=A hD
   have hdec:dot=false∨(dot=true/\en=false)∨(dot=true/\en=true/\((k:Int)==(ps.length:Int)-1)=false):=by
    cases dot
    .exact XB rfl
    .cases en
     .exact Xz (XB ⟨rfl,rfl⟩)
     .exact Xz (Xz ⟨rfl,rfl,by simp only[beq_eq_false_iff_ne,ne_eq];intro h;exact hD ⟨rfl,rfl,by omega⟩⟩)
   clear hD HDOT;rcases hdec with rfl|⟨rfl,rfl⟩|⟨rfl,rfl,hl'⟩
   focus
    skip
    have HGV:=A (HGRP.o HND.o)
    by_cases hb:p.length<1∨4<p.length
    focus
     have HF:=A (show groups l en=([],false)by rw[HG.o,HE.o,HGV.o,show ZzX p=none from ifP hb];rfl)
     rw[HPV.o]at hck2;rcases hb with hb|hb
     rotate_left
    rotate_left 2
    .have hp1:1<=p.length:=by omega
     have hp4:p.length<=4:=by omega
     have HVAL:=A (show ZzX p=ZAo 0 p from ifN hb);clear hb
     obtain⟨pb,poff,pc2,hpe,hplc,hpcap,hprow⟩:=HVK2.o.open_ (k:=0) (by omega)
     unfold maxLen at hpcap;rw[hpe]at hck2;have HPROW:=A hprow;clear hprow hpe;go_wp2
     go_loop [14,15] (fun x j=>∃(m:Nat) (vv:Int),m<=p.length/\j=I X m/\x=I X vv/\0<=vv/\Hid (vv+1<=16^m)/\Hid (ZAo 0 p=ZAo vv (p.drop m))) (fun _ j=>p.length-(intOf j).toNat)
     case atStart=>exact⟨0,0,Xj _,rfl,rfl,by omega,by show(0:Int)+1<=16^0;decide,rfl⟩
     case round=>
      obtain⟨m,vv,hm,rfl,rfl,hv0,HV1,HHX⟩:=hrel
      have hv1:=ZDe HV1.o (by omega)
      by_cases hml:m<p.length
      .have hcp:=HPROW.o.cell hml
       obtain⟨hd0,hd1⟩:=Zev p[m];have HSTP:=A (ZCv (v:=vv) hml)
       by_cases hneg:digit p[m]<0
       .have HF:=A (show groups l en=([],false)by rw[HG.o,HE.o,HGV.o,HVAL.o,HHX.o,HSTP.o,ifP hneg];rfl)
        go_wp2_with (go_at_call 286;refine(ZS _ _).mono ?_;rintro e w' ⟨rfl,rfl⟩)
        go_ret2
        exact⟨_,by rw[HF.o];rfl,by rw[HF.o];exact World.ownsRow_nil _ _ _ _,HN1.o.then HN2.o⟩
       .have HNXT:=A (HHX.o.trans (HSTP.o.trans (ifN hneg)))
        have HBND:=A (ZDd HV1.o hd1)
        go_wp2_with (go_at_call 286;refine(ZS _ _).mono ?_;rintro e w' ⟨rfl,rfl⟩)
        go_round
        exact⟨m+1,16*vv+digit p[m],by omega,by go_num,rfl,by omega,HBND.o,HNXT.o⟩
        simp[intOf];omega
      .have HFIN:=A (show ZAo 0 p=some vv by rw[HHX.o,Xa (by omega),ZAo])
       have HNXT:=A (show grpGoR en ps=(grpGoR en (ps.drop (k+1))).map (q++[vv]++·)by rw[HE.o,HGV.o,HVAL.o,HFIN.o];cases grpGoR en (ps.drop (k+1))<;>simp)
       have hql2:q.length<1099511627776:=by omega
       go_wp2_with (at_builtin;go_must (refine Zd8 w2 vv rfl _ _ rfl w1.heap.size u6 q rfl HO2.o rfl hql2 hz2 ?_;intro v' w5 ho5 hb5 _;have HO5:=A ho5;clear ho5))
       go_roundw
       exact⟨k+1,q++[vv],by omega,by go_num,HO5.o,HNXT.o,by simp;omega,HN2.o.trans hb5⟩
       simp[intOf];omega
   rotate_left 2
   focus
    skip
    have HGV:=A (HGRP.o HND.o)
    by_cases hb:p.length<1∨4<p.length
    focus
     have HF:=A (show groups l false=([],false)by rw[HG.o,HE.o,HGV.o,show ZzX p=none from ifP hb];rfl)
     rw[HPV.o]at hck2;rcases hb with hb|hb
     rotate_left
    rotate_left 2
    .have hp1:1<=p.length:=by omega
     have hp4:p.length<=4:=by omega
     have HVAL:=A (show ZzX p=ZAo 0 p from ifN hb);clear hb
     obtain⟨pb,poff,pc2,hpe,hplc,hpcap,hprow⟩:=HVK2.o.open_ (k:=0) (by omega)
     unfold maxLen at hpcap;rw[hpe]at hck2;have HPROW:=A hprow;clear hprow hpe;go_wp2
     go_loop [14,15] (fun x j=>∃(m:Nat) (vv:Int),m<=p.length/\j=I X m/\x=I X vv/\0<=vv/\Hid (vv+1<=16^m)/\Hid (ZAo 0 p=ZAo vv (p.drop m))) (fun _ j=>p.length-(intOf j).toNat)
     case atStart=>exact⟨0,0,Xj _,rfl,rfl,by omega,by show(0:Int)+1<=16^0;decide,rfl⟩
     case round=>
      obtain⟨m,vv,hm,rfl,rfl,hv0,HV1,HHX⟩:=hrel
      have hv1:=ZDe HV1.o (by omega)
      by_cases hml:m<p.length
      .have hcp:=HPROW.o.cell hml
       obtain⟨hd0,hd1⟩:=Zev p[m];have HSTP:=A (ZCv (v:=vv) hml)
       by_cases hneg:digit p[m]<0
       .have HF:=A (show groups l false=([],false)by rw[HG.o,HE.o,HGV.o,HVAL.o,HHX.o,HSTP.o,ifP hneg];rfl)
        go_wp2_with (go_at_call 286;refine(ZS _ _).mono ?_;rintro e w' ⟨rfl,rfl⟩)
        go_ret2
        exact⟨_,by rw[HF.o];rfl,by rw[HF.o];exact World.ownsRow_nil _ _ _ _,HN1.o.then HN2.o⟩
       .have HNXT:=A (HHX.o.trans (HSTP.o.trans (ifN hneg)))
        have HBND:=A (ZDd HV1.o hd1)
        go_wp2_with (go_at_call 286;refine(ZS _ _).mono ?_;rintro e w' ⟨rfl,rfl⟩)
        go_round
        exact⟨m+1,16*vv+digit p[m],by omega,by go_num,rfl,by omega,HBND.o,HNXT.o⟩
        simp[intOf];omega
      .have HFIN:=A (show ZAo 0 p=some vv by rw[HHX.o,Xa (by omega),ZAo])
       have HNXT:=A (show grpGoR false ps=(grpGoR false (ps.drop (k+1))).map (q++[vv]++·)by rw[HE.o,HGV.o,HVAL.o,HFIN.o];cases grpGoR false (ps.drop (k+1))<;>simp)
       have hql2:q.length<1099511627776:=by omega
       go_wp2_with (at_builtin;go_must (refine Zd8 w2 vv rfl _ _ rfl w1.heap.size u6 q rfl HO2.o rfl hql2 hz2 ?_;intro v' w5 ho5 hb5 _;have HO5:=A ho5;clear ho5))
       go_roundw
       exact⟨k+1,q++[vv],by omega,by go_num,HO5.o,HNXT.o,by simp;omega,HN2.o.trans hb5⟩
       simp[intOf];omega
   rotate_left 2
   focus
    skip
    have HGV:=A (HGRP.o HND.o)
    by_cases hb:p.length<1∨4<p.length
    focus
     have HF:=A (show groups l true=([],false)by rw[HG.o,HE.o,HGV.o,show ZzX p=none from ifP hb];rfl)
     rw[HPV.o]at hck2;rcases hb with hb|hb
     rotate_left
    rotate_left 2
    .have hp1:1<=p.length:=by omega
     have hp4:p.length<=4:=by omega
     have HVAL:=A (show ZzX p=ZAo 0 p from ifN hb);clear hb
     obtain⟨pb,poff,pc2,hpe,hplc,hpcap,hprow⟩:=HVK2.o.open_ (k:=0) (by omega)
     unfold maxLen at hpcap;rw[hpe]at hck2;have HPROW:=A hprow;clear hprow hpe;go_wp2
     go_loop [14,15] (fun x j=>∃(m:Nat) (vv:Int),m<=p.length/\j=I X m/\x=I X vv/\0<=vv/\Hid (vv+1<=16^m)/\Hid (ZAo 0 p=ZAo vv (p.drop m))) (fun _ j=>p.length-(intOf j).toNat)
     case atStart=>exact⟨0,0,Xj _,rfl,rfl,by omega,by show(0:Int)+1<=16^0;decide,rfl⟩
     case round=>
      obtain⟨m,vv,hm,rfl,rfl,hv0,HV1,HHX⟩:=hrel
      have hv1:=ZDe HV1.o (by omega)
      by_cases hml:m<p.length
      .have hcp:=HPROW.o.cell hml
       obtain⟨hd0,hd1⟩:=Zev p[m];have HSTP:=A (ZCv (v:=vv) hml)
       by_cases hneg:digit p[m]<0
       .have HF:=A (show groups l true=([],false)by rw[HG.o,HE.o,HGV.o,HVAL.o,HHX.o,HSTP.o,ifP hneg];rfl)
        go_wp2_with (go_at_call 286;refine(ZS _ _).mono ?_;rintro e w' ⟨rfl,rfl⟩)
        go_ret2
        exact⟨_,by rw[HF.o];rfl,by rw[HF.o];exact World.ownsRow_nil _ _ _ _,HN1.o.then HN2.o⟩
       .have HNXT:=A (HHX.o.trans (HSTP.o.trans (ifN hneg)))
        have HBND:=A (ZDd HV1.o hd1)
        go_wp2_with (go_at_call 286;refine(ZS _ _).mono ?_;rintro e w' ⟨rfl,rfl⟩)
        go_round
        exact⟨m+1,16*vv+digit p[m],by omega,by go_num,rfl,by omega,HBND.o,HNXT.o⟩
        simp[intOf];omega
      .have HFIN:=A (show ZAo 0 p=some vv by rw[HHX.o,Xa (by omega),ZAo])
       have HNXT:=A (show grpGoR true ps=(grpGoR true (ps.drop (k+1))).map (q++[vv]++·)by rw[HE.o,HGV.o,HVAL.o,HFIN.o];cases grpGoR true (ps.drop (k+1))<;>simp)
       have hql2:q.length<1099511627776:=by omega
       go_wp2_with (at_builtin;go_must (refine Zd8 w2 vv rfl _ _ rfl w1.heap.size u6 q rfl HO2.o rfl hql2 hz2 ?_;intro v' w5 ho5 hb5 _;have HO5:=A ho5;clear ho5))
       go_roundw
       exact⟨k+1,q++[vv],by omega,by go_num,HO5.o,HNXT.o,by simp;omega,HN2.o.trans hb5⟩
       simp[intOf];omega
   all_goals
    go_wp2;go_ret2
    exact⟨_,by rw[HF.o];rfl,by rw[HF.o];exact World.ownsRow_nil _ _ _ _,HN1.o.then HN2.o⟩
  .have HF:=A (show groups l en=(q,true)by rw[HG.o,HE.o,Xa (by omega)];simp[grpGoR])
   go_wp2;go_ret2
   exact⟨_,by rw[HF.o];rfl,by rw[HF.o];exact ZCd HO.o hz1,HN1.o.then HN.o⟩
def ZCQ(l:List Int)(i:Nat):List Int×Bool:=
 if(groups (l.take i) false).2=false∨(groups (l.drop (i+2)) true).2=false∨7<(groups (l.take i) false).1.length+(groups (l.drop (i+2)) true).1.length then([],false)
 else((groups (l.take i) false).1++List.replicate (8-((groups (l.take i) false).1.length+(groups (l.drop (i+2)) true).1.length)) 0++(groups (l.drop (i+2)) true).1,true)
def Zz6(l:List Int)(i:Nat):List Int×Bool:=
 if i+1<l.length then(if l.getD i 0=58/\l.getD (i+1) 0=58 then ZCQ l i else Zz6 l (i+1))
 else((groups l true).1,(groups l true).2&&(groups l true).1.length==8)
 termination_by l.length-i
 decreasing_by omega
def address(l:List Int):List Int×Bool:=Zz6 l 0
def Dj(v2 v:Value):Prop:=v2.ownBlock=none∨v2.ownBlock≠v.ownBlock
theorem ZKY{ops:Array Oper}{rest:List Oper}{o:Oper}{a:Act}{Q:Exit->Act->World->Prop}(w:World)(base2:Nat)(v2:Value)(l2:LI)(hown2:OwnI w base2 v2 l2)
  (hgd:o.guard=none) (s x:Operand) (ho:o.op=.call { callee:=.builtin .append,args:=#[s,x],argTypes:=#[124,124] })
  (base:Nat) (v:Value) (l:LI) (hs:a.eval s=v) (hown:OwnI w base v l) (hdj:Dj v2 v) (hx:a.eval x=.slice (some ⟨w.heap.size,0,none⟩) 1 1)
  (hn:l.length<1000000) (hbase:base<=w.heap.size)
  (h:∀v' w',OwnI w' base v' (l++[0])->OwnI w' base2 v2 l2->Dj v2 v'->Below base w w'->wpList prog ops Q rest (a.put o.dst v') w'):
  wpList prog ops Q (o::rest) a (w.alloc (.cells #[I X 0] 3)):=by
 obtain⟨i,hi,hz0,hz1,hz2⟩:=info_parts ZfA
 refine wpList_append_lies (w.alloc (.cells #[I X 0] 3)) hgd s x _ ho base _ i (I X 0) 1 8 underlying124 hi hz0 hz1 hz2 rfl (by decide) v l.length _ hs (World.ownsRow.alloc hown _) ⟨w.heap.size,0,none⟩ 1 1 [I X 0] hx rfl (Zf0 (by simp)) (by simp[Value.oneCell']) (by decide) (by unfold maxLen;omega) (by omega) (by simp;omega) _ rfl ?_
 intro g cap w' h2 h3 h4 _
 refine h _ w' ?_ ((World.ownsRow.alloc hown2 _).kept h3 hdj) ?_ (((Below.refl base w).alloc hbase _).grown h3 (by simp;omega) (fun k hk=>(hown.lt k hk).1))
 .unfold OwnI
  rw[Xh,Xd];exact h2
 .cases hv2:v2.ownBlock with
  | none=>exact XB hv2
  | some k=>
   right
   rw[hv2]
   show some k≠some g
   intro e;have hk:=(hown2.lt k hv2).2;rcases h4 with h4|h4
   .rcases hdj with h5|h5
    .rw[h5]at hv2;cases hv2
    .exact h5 (by rw[hv2,h4,e])
   .have e2:=Option.some.inj e
    rw[World.size_alloc]at h4
    omega
theorem ZNb{w1 w2:World}{B:Nat}{va vb:Value}{qa qb:LI}(ha:OwnI w1 B va qa)(hb:OwnI w2 w1.heap.size vb qb):Dj vb va:=by
 cases e:vb.ownBlock with
 | none=>exact XB e
 | some k=>
  right
  rw[e];intro h;have h1:=(hb.lt k e).1;have h2:=(ha.lt k h.symm).2
  omega
theorem ZH0{q qa:LI}(h:q=qa++List.replicate (q.length-qa.length) 0)(hl:qa.length<=q.length):q++[0]=qa++List.replicate ((q++[0]).length-qa.length) 0:=by rw[Xh,show q.length + [(0:Int)].length-qa.length=(q.length-qa.length)+1 by simp;omega,List.replicate_succ',<-List.append_assoc,<-h]
theorem ZMq{α:Type}{e:TypeId}{f:α->Value}{w:World}{l:List α}{b off cap:Nat}(h:SlAt e f w (.slice (some ⟨b,off,none⟩) l.length cap) l):RowAt e f w b off l:=by obtain⟨ao,c,e1,_,_,_,hs⟩:=h;simp only[Value.slice.injEq]at e1;obtain⟨b',off',ea,hr⟩:=hs _ e1.1.symm;simp only[Addr.mk.injEq]at ea;obtain⟨rfl,rfl,_⟩:=ea;exact hr
theorem ZAI{l:LI}{i:Nat}(h:i<l.length):l.getD i 0=l[i]:=by rw[Xe,Xg h];rfl
theorem ZDM(en:Bool)(ps:List LI):∀q,grpGoR en ps=some q->q.length<=2*ps.length:=by
 induction ps with
 | nil=>intro q h;simp only[grpGoR,Option.some.injEq]at h;subst h;simp
 | cons p r ih=>
  intro q h;rw[grpGoR]at h
  split at h
  .split at h
   .rename_i hd
    simp only[Option.some.injEq]at h;subst h;have:=ZDV hd;simp only[Xf];omega
   .cases h
  .split at h
   .cases h
   .cases hr:grpGoR en r with
    | none=>rw[hr]at h;cases h
    | some z=>
     rw[hr]at h;simp only[Xw,Option.some.injEq]at h;subst h;have:=ih z hr;simp only[Xf];omega
theorem ZDW(l:LI)(en:Bool):(groups l en).1.length<=2*(l.length+1):=by
 unfold groups
 split
 .simp
 .cases h:grpGoR en (parts l [58])with
  | none=>simp
  | some q=>
   have h1:=ZDM en _ q h;have h2:=(ZzS l [58]).1;simp only;omega
theorem ZGc(v:Value)(l:LI)(w:World)(hv:IntsAt w v l)(hl:l.length<=80000):Calls prog 213 #[v] w fun e w'=>∃v',e=Y (.tuple #[v',C (address l).2])/\IntsAt w' v' (address l).1/\Nx w w':=by
 have HV:=A hv;obtain⟨ao,cap,rfl,hlc,hcap,hnone,hsome⟩:=hv;have HCAP:=A hcap;unfold maxLen at hcap
 go_enter func213,ntmps213
 go_wp2
 go_loop [4] (fun x=>∃i:Nat,i<=l.length/\x=I X i/\address l=Zz6 l i) (fun x=>l.length-(intOf x).toNat)
 case atStart=>exact⟨0,Xj _,rfl,rfl⟩
 case round=>
  obtain⟨i,hi,rfl,hE⟩:=hrel
  by_cases hlt:i+1<l.length
  .obtain⟨a,ha⟩:=Zv (k:=i) (by omega) hnone
   subst ha;obtain⟨b,off,rfl,hr⟩:=hsome a rfl
   have c0:=hr.cell (i:=i) (by omega)
   have c1:=hr.cell (i:=i+1) hlt;have HR:=A hr;clear hnone hsome hr
   rw[Zz6,ifP hlt,ZAI (by omega:i<l.length),ZAI hlt]at hE
   by_cases h1:l[i]=58
   focus
    by_cases h2:l[i+1]=58
    .have HE:=A (hE.trans (ifP ⟨h1,h2⟩))
     rw[h1]at c0;rw[h2]at c1;clear h1 h2 hE;have HLA:=A (ZDW (l.take i) false);have HLB:=A (ZDW (l.drop (i+2)) true)
     have HAT:=A (show ZCQ l i=if(groups (l.take i) false).2=false∨(groups (l.drop (i+2)) true).2=false∨7<(groups (l.take i) false).1.length+(groups (l.drop (i+2)) true).1.length then([],false)else((groups (l.take i) false).1++List.replicate (8-((groups (l.take i) false).1.length+(groups (l.drop (i+2)) true).1.length)) 0++(groups (l.drop (i+2)) true).1,true)from rfl)
     have HS1:=A (ZdB HR.o hlc HCAP.o i (by omega))
     go_wp2_with fail
     refine(ZBM _ (l.take i) false _ HS1.o (by rw[Xx];omega)).mono ?_
     rintro e w1 ⟨va,rfl,hoa,hn1⟩;generalize groups (l.take i) false=ga at *;obtain⟨qa,oka⟩:=ga;simp only at *;have HOA1:=A hoa;have HN1:=A hn1;obtain⟨aao,acap,hae⟩:=ZBb hoa;subst hae;have HR1:=A (HR.o.on hn1);clear hn1 hoa HR c0 c1;have HS2:=A (Zjm HR1.o (i+2) 0);have HS3:=A (Zfz HR1.o hlc HCAP.o (i+2));go_wp2_with fail
     focus
      refine(ZBM _ (l.drop (i+2)) true _ (HS2.o (by omega) (Xj _)) (by rw[Xn];omega)).mono ?_
     rotate_left
     focus
      refine(ZBM _ (l.drop (i+2)) true _ (HS3.o (by omega)) (by rw[Xn];omega)).mono ?_
     all_goals
      rintro e w2 ⟨vb,rfl,hob,hn2⟩;generalize groups (l.drop (i+2)) true=gb at *;obtain⟨qb,okb⟩:=gb;simp only at *;have HOA:=A (Zbw HOA1.o hn2);have HOB:=A hob;have HN2:=A (HN1.o.then hn2);have HDJ:=A (ZNb HOA1.o hob);have hla:=HLA.o;have hlb:=HLB.o;rw[Xx]at hla;rw[Xn]at hlb;have hz1:=HN1.o.size;have hz2:=HN2.o.size;obtain⟨bo,bcap,hbe⟩:=ZBb hob;clear hn2 hob;subst hbe
      cases oka
      .have HF:=A (show address l=([],false)by rw[HE.o,HAT.o,ifP (XB rfl)])
       go_wp2;go_ret2
       exact⟨_,by rw[HF.o];rfl,by rw[HF.o];exact SlAt.nil _,HN2.o⟩
      cases okb
      .have HF:=A (show address l=([],false)by rw[HE.o,HAT.o,ifP (Xz (XB rfl))])
       go_wp2;go_ret2
       exact⟨_,by rw[HF.o];rfl,by rw[HF.o];exact SlAt.nil _,HN2.o⟩
      by_cases h7:7<qa.length+qb.length
      .have HF:=A (show address l=([],false)by rw[HE.o,HAT.o,ifP (Xz (Xz h7))])
       go_wp2;go_ret2
       exact⟨_,by rw[HF.o];rfl,by rw[HF.o];exact SlAt.nil _,HN2.o⟩
      have HF:=A (show address l=(qa++List.replicate (8-(qa.length+qb.length)) 0++qb,true)by rw[HE.o,HAT.o,ifN (by simp only[Bool.true_eq_false,false_or];exact h7)])
      clear HE HAT
      have h7':decide (7<(qa.length:Int)+(qb.length:Int))=false:=by simp only[decide_eq_false_iff_not];omega
      go_wp2
      go_loopw [5] (fun x wr=>∃q:LI,OwnI wr w.heap.size x q/\OwnI wr w1.heap.size (.slice bo qb.length bcap) qb/\Dj (.slice bo qb.length bcap) x/\Hid (q=qa++List.replicate (q.length-qa.length) 0)/\qa.length<=q.length/\q.length+qb.length<=8/\Nx w wr) (fun x _=>8-Zbl x)
      case atStart=>exact⟨qa,HOA.o,HOB.o,HDJ.o,by show qa=qa++List.replicate (qa.length-qa.length) 0;simp,Xr _,by omega,HN2.o⟩
      case round=>
       clear HOA HOB HDJ;obtain⟨q,hq1,hq2,hq3,HQ4,hq5,hq6,hq7⟩:=hrel;obtain⟨qo,qcap,hqe⟩:=ZBb hq1;subst hqe;have HQ1:=A hq1;have HQ2:=A hq2;have HQ3:=A hq3;have HQ7:=A hq7;have hzq:=hq7.size;clear hq1 hq2 hq3 hq7
       by_cases h8:q.length+qb.length<8
       .have hqs:q.length<1000000:=by omega
        have HQN:=A (ZH0 HQ4.o hq5)
        go_wp2_with (at_builtin;go_must (refine ZKY wr w1.heap.size (.slice bo qb.length bcap) qb HQ2.o rfl _ _ rfl w.heap.size (.slice qo q.length qcap) q rfl HQ1.o HQ3.o rfl hqs hzq ?_;intro v' w5 ho5 ho6 hd5 hb5;have HO5:=A ho5;have HO6:=A ho6;have HD5:=A hd5;clear ho5 ho6 hd5))
        go_roundw
        case rel=>exact⟨q++[0],HO5.o,HO6.o,HD5.o,HQN.o,by simp;omega,by simp;omega,HQ7.o.trans hb5⟩
        case measure=>
         obtain⟨o5,c5,e5⟩:=ZBb HO5.o;rw[e5]
         simp[Zbl];omega
       .have HFN:=A (show(address l).1=q++qb/\(address l).2=true by
         rw[HF.o]
         refine⟨?_,rfl⟩
         have h:=HQ4.o
         rw[show q.length-qa.length=8-(qa.length+qb.length)by omega]at h
         rw[h])
        obtain⟨hb1,⟨hb2,hb3⟩|⟨g,gcap,cur,hb2,hb3⟩⟩:=HQ2.o
        .have hqb:qb=[]:=Xc hb3
         have hbo:bo=none/\bcap=0:=by simp only[Value.slice.injEq]at hb2;exact⟨hb2.1,hb2.2.2⟩
         obtain⟨rfl,rfl⟩:=hbo;have HFN2:=HFN.o;rw[hqb,XF]at HFN2;have HF3:=A HFN2;rw[hb3]at h7' h8 hq6 ⊢;obtain⟨i0,hi0,_,_,_⟩:=info_parts ZfA;clear HF HFN HFN2 hb1 hb2 hb3 hqb HQ2 HQ3 HQ4
         go_wp2_with (at_builtin;go_must (refine wpList_append_own_none rfl _ _ 124 rfl w.heap.size 3 i0 1 underlying124 hi0 (.slice qo q.length qcap) q.length (q.map (Value.int .i64)) rfl HQ1.o rfl ?_))
         go_ret2
         exact⟨_,by rw[HF3.o.2];rfl,by rw[HF3.o.1];exact OwnI.ints HQ1.o,HQ7.o⟩
        .have hbo:bo=some ⟨g,0,none⟩/\bcap=gcap:=by simp only[Value.slice.injEq]at hb2;exact⟨hb2.1,hb2.2.2⟩
         obtain⟨rfl,rfl⟩:=hbo;have HRB:=A (ZMq (OwnI.ints HQ2.o))
         have hqs:q.length+qb.length<1099511627776:=by omega
         clear HF hb1 hb2 hb3 HQ2 HQ3 HQ4
         go_wp2_with (at_builtin;go_must (refine ZHk wr qb g 0 HRB.o rfl _ _ rfl w.heap.size (.slice qo q.length qcap) q rfl HQ1.o bcap rfl hqs hzq ?_;intro v' w5 ho5 hb5;have HO5:=A ho5;clear ho5))
         go_ret2
         exact⟨_,by rw[HFN.o.2];rfl,by rw[HFN.o.1];exact OwnI.ints HO5.o,HQ7.o.trans hb5⟩
    focus
     have HE:=A (hE.trans (ifN (fun h=>h2 h.2)))
     have h2':(l[i+1]==58)=false:=by simp[h2]
     rw[h1]at c0;clear h1 h2 hE
   rotate_left
   focus
    have HE:=A (hE.trans (ifN (fun h=>h1 h.1)))
    have h1':(l[i]==58)=false:=by simp[h1]
    clear h1 hE
   all_goals
    go_wp2
    go_round
    exact⟨i+1,by omega,by go_num,HE.o⟩
    simp[intOf];omega
  .rw[Zz6,ifN hlt]at hE
   have HE:=A hE;clear hE;go_wp2_with fail
   refine(ZBM _ l true _ HV.o hl).mono ?_
   rintro e w1 ⟨v1,rfl,hv1,hn1⟩;generalize groups l true=q at *;obtain⟨qa,ok⟩:=q;simp only at *;obtain⟨po,pcap,rfl⟩:=ZBb hv1;have HO:=A hv1;clear hv1
   cases ok
   .go_wp2
    go_ret2
    exact⟨_,by rw[HE.o];rfl,by rw[HE.o];exact OwnI.ints HO.o,hn1⟩
   .by_cases h8:qa.length=8
    focus
     have h8':((qa.length:Int)==8)=true:=by simp[h8]
     have HB:=A (show(qa.length==8)=true by simp[h8])
    rotate_left
    focus
     have h8':((qa.length:Int)==8)=false:=by simp only[beq_eq_false_iff_ne,ne_eq];omega
     have HB:=A (show(qa.length==8)=false by simp[h8])
    all_goals
     clear h8;go_wp2;go_ret2
     exact⟨_,by rw[HE.o];simp only[Bool.true_and,HB.o];rfl,by rw[HE.o];exact OwnI.ints HO.o,hn1⟩
end Go.Proofs.YtchkhibgbnhjpabGreatDoor
