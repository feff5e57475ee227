import Derived.Test.YtchkhibgbnhjpabGreatDoorW07
open Bool renaming true_eq_false→Xb
open Int renaming mul_one→Xf
open List renaming getElem_mem→Xa,length_pos_iff→Xg,nil_append→Xi
open Nat renaming add_zero→Xd,le_refl→Xh,zero_add→Xj,zero_le→Xk
open Or renaming inl→Xc,inr→Xe
open Go.Value renaming string→J,bool→C,int→I
open Go.IntKind renaming i64→X
open Go.Ending renaming returned→Y
namespace Go.Proofs.YtchkhibgbnhjpabGreatDoor
open Tryz
open Go.RowKit
set_option maxHeartbeats 4000000
set_option maxRecDepth 100000
variable [Fl]
set_option linter.all false
def ZAR(c:Int):Bool:=alpha c||numeral c||among c [43,45,46]
def ZEX(a:List Int):Bool:=alpha (a.headD 0) && !a.isEmpty&&a.all ZAR
def schemeOf(l:List Int):List UInt8×List Int×Bool:=
 if(cut l [58]).2.2&&ZEX (cut l [58]).1 then(lower (Zb (cut l [58]).1),(cut l [58]).2.1,true)else([],l,false)
theorem ZAw(v:Value)(l:LI)(w:World)(hv:IntsAt w v l)(hn:l.length<=100000)(hp:∀c∈l,Pt c):Calls prog 172 #[v] w fun e w'=>∃(r:BA) (v':Value),e=Y (.tuple #[J r,v',C (schemeOf l).2.2])/\tl r=(schemeOf l).1/\IntsAt w' v' (schemeOf l).2.1/\Nx w w':=by
 have HV:=A hv
 have HPC:=A (fun c (h:c∈(cut l [58]).1)=>hp c (Zy (Xc h)))
 have HLC:=A (Zbc l [58])
 have HS:=A (show schemeOf l=if(cut l [58]).2.2&&ZEX (cut l [58]).1 then(lower (Zb (cut l [58]).1),(cut l [58]).2.1,true)else([],l,false)from rfl)
 go_enter func172,ntmps172
 go_wp2_with fail
 refine(ZbY _ l _ _ (Ze (by decide)) hv).mono ?_
 rintro e w1 ⟨v1,v2,rfl,hv1,hv2,hn1⟩;rw[show tl ⟨#[58]⟩=[58]from rfl]at hv1 hv2 ⊢;have HVN:=A (HV.o.on hn1);have HN1:=A hn1;clear hv hn1 HV hp;generalize cut l [58]=q at *;obtain⟨a,b,ok⟩:=q;simp only at *;have HV1:=A hv1;have HV2:=A hv2;clear hv2
 cases ok
 focus
  have HF:=A (show schemeOf l=([],l,false)by rw[HS.o,ifN (by simp)])
  clear HS
 rotate_left
 focus
  by_cases ha:a=[]
  focus
   subst ha
   have HF:=A (show schemeOf l=([],l,false)by rw[HS.o,ifN (by simp[ZEX])])
   clear HS;obtain⟨ao,cap,rfl,hlc,hcap,_,_⟩:=hv1
  rotate_left
  .have hal:0<a.length:=Xg.2 ha
   obtain⟨ab,aoff,acap,rfl,hlc,hcap,hr⟩:=hv1.open_ hal;unfold maxLen at hcap;have c0:=hr.cell hal;simp only[Xd]at c0;have HR:=A hr;clear hr hv1
   have hhd:a.headD 0=a[0]:=by cases a with|nil=>exact absurd rfl ha|cons=>rfl
   have hane:a.isEmpty=false:=by cases a with|nil=>exact absurd rfl ha|cons=>rfl
   have HOK:=A (show ZEX a=(alpha a[0]&&a.all ZAR)by unfold ZEX;rw[hhd,hane];simp)
   clear ha hhd hane;generalize hfa:alpha a[0]=fa at *;have HFA:=A hfa;clear hfa;go_wp2_with fail
   refine(ZdQ _ _).mono ?_
   rintro e w' ⟨rfl,rfl⟩;rw[HFA.o]
   cases fa
   .have HF:=A (show schemeOf l=([],l,false)by rw[HS.o,ifN (by rw[HOK.o];simp)])
    clear HS;go_wp2_with fail
    go_loop [9] (fun i=>i=I X 0) (fun _=>0)
    case atStart=>rfl
    case round=>
     subst hrel
     go_wp2_with (first|(go_at_call 210;refine(ZdQ _ _).mono ?_;rintro e w' ⟨rfl,rfl⟩)|(go_at_call 211;refine(Zc4 _ _).mono ?_;rintro e w' ⟨rfl,rfl⟩)|(go_at_call 175;refine(Zbz _ _ _ (Ze (by decide))).mono ?_;rintro e w' ⟨rfl,rfl⟩))
     go_ret3
     exact⟨_,_,by rw[HF.o];rfl,by rw[HF.o];rfl,by rw[HF.o];exact HVN.o,HN1.o⟩
   .go_wp2_with fail
    go_loop [9] (fun i=>∃k:Nat,k<=a.length/\i=I X k/\(a.take k).all ZAR=true) (fun i=>a.length-(intOf i).toNat)
    case atStart=>exact⟨0,Xk _,rfl,rfl⟩
    case round=>
     obtain⟨k,hk,rfl,hall⟩:=hrel;have HALL:=A hall;clear hall
     by_cases hlt:k<a.length
     .have ck:=HR.o.cell hlt
      cases hsg:ZAR a[k]
      .have HF:=A (show schemeOf l=([],l,false)by
        rw[HS.o,ifN];rw[HOK.o]
        have:a.all ZAR=false:=by rw[List.all_eq_false];exact⟨a[k],Xa _,by simp[hsg]⟩
        simp[this])
       have hsg2:=hsg;unfold ZAR at hsg2;simp only[Bool.or_eq_false_iff]at hsg2;obtain⟨⟨s1,s2⟩,s3⟩:=hsg2;have HS1:=A s1;have HS2:=A s2;have HS3:=A s3;clear s1 s2 s3 hsg HS;go_wp2_with fail
       refine(ZdQ _ _).mono ?_
       rintro e w' ⟨rfl,rfl⟩;rw[HS1.o];go_wp2_with fail
       refine(Zc4 _ _).mono ?_
       rintro e w' ⟨rfl,rfl⟩;rw[HS2.o];go_wp2_with fail
       refine(Zbz _ _ _ (Ze (by decide))).mono ?_
       rintro e w' ⟨rfl,rfl⟩;rw[show tl ⟨#[43,45,46]⟩=[43,45,46]from rfl,HS3.o];go_wp2
       go_ret3
       exact⟨_,_,by rw[HF.o];rfl,by rw[HF.o];rfl,by rw[HF.o];exact HVN.o,HN1.o⟩
      .have HNEXT:=A (Zgf hlt HALL.o hsg)
       have hsg2:=hsg;unfold ZAR at hsg2;simp only[Bool.or_eq_true]at hsg2;have HSG:=A hsg2;clear hsg hsg2;go_wp2_with fail
       refine(ZdQ _ _).mono ?_
       rintro e w' ⟨rfl,rfl⟩;generalize alpha a[k]=b1 at *;go_wp2_with fail
       refine(Zc4 _ _).mono ?_
       rintro e w' ⟨rfl,rfl⟩;generalize numeral a[k]=b2 at *;go_wp2_with fail
       refine(Zbz _ _ _ (Ze (by decide))).mono ?_
       rintro e w' ⟨rfl,rfl⟩;rw[show tl ⟨#[43,45,46]⟩=[43,45,46]from rfl];generalize among a[k] [43,45,46]=b3 at *;have hsg3:=HSG.o
       cases b1<;>cases b2<;>cases b3
       .simp at hsg3
       all_goals
        clear hsg3 HSG;go_wp2
        go_round
        exact⟨k+1,by omega,by go_num,HNEXT.o⟩
        simp[intOf];omega
     .rw[List.take_of_length_le (by omega)]at HALL
      have HF:=A (show schemeOf l=(lower (Zb a),b,true)by rw[HS.o,ifP (by rw[HOK.o,HALL.o];rfl)])
      clear HS;have hle:=HLC.o.1;go_wp2_with fail
      refine(ZbB _ a _ HV1.o (by omega) HPC.o).mono ?_
      rintro e w2 ⟨r,rfl,hr,hn2⟩
      have hrs:r.size<=400000:=by have h:=Za9 a;rw[<-hr,Za]at h;omega
      go_wp2_with fail
      refine(ZeD _ _ (by omega)).mono ?_
      rintro e w3 ⟨t,rfl,ht,hn3⟩
      have HT:=A (show tl t=lower (Zb a)by rw[ht,hr])
      clear ht hr;go_wp2
      go_ret3
      exact⟨_,_,by rw[HF.o];rfl,by rw[HF.o];exact HT.o,by rw[HF.o];exact(HV2.o.on hn2).on hn3,(HN1.o.then hn2).then hn3⟩
 all_goals
  go_wp2
  go_ret3
  exact⟨_,_,by rw[HF.o];rfl,by rw[HF.o];rfl,by rw[HF.o];exact HVN.o,HN1.o⟩
def Zzu:List UInt8:=[102,105,108,101]
def shorter(sch:List UInt8)(bs:List ByteArray):List ByteArray:=if bs.length=1/\sch=Zzu/\drive (tl (bs.headD ⟨#[]⟩))=true then bs else bs.dropLast
theorem ZHb{w:World}{b off:Nat}{bs:LA}(h:RowAt 9 Value.string w b off bs):∀(j:Nat) (u:Value),(bs.map Value.string)[j]?=some u->w.cell? ((⟨b,off,none⟩:Addr).add j)=some u:=by
 intro j u hu;rw[Addr.add_lit]
 have hj:j<bs.length:=by have:=(List.getElem?_eq_some_iff.1 hu).1;simpa using this
 rw[h.cell hj]
 simp[List.getElem?_eq_getElem hj]at hu
 rw[hu]
theorem ZCd{w:World}{base base':Nat}{e:TypeId}{size:Nat}{v:Value}{n:Nat}{xs:List Value}(h:w.ownsRow base e size v n xs)(hb:base'<=base):w.ownsRow base' e size v n xs:=by
 obtain⟨h1,h2⟩:=h
 refine⟨h1,?_⟩
 rcases h2 with h2|⟨g,cap,cur,hv,hg,r⟩
 .exact Xc h2
 .exact Xe ⟨g,cap,cur,hv,by omega,r⟩
theorem ZzQ(w:World)(base:Nat):ZbK w base (.slice none 0 0) []:=World.ownsRow_nil _ _ _ _
theorem ZHc(w:World)(y:BA):ZbK (w.alloc (.cells #[J y] 9)) w.heap.size (.slice (some ⟨w.heap.size,0,none⟩) 1 1) [y]:=
 ⟨rfl,.inr ⟨w.heap.size,1,#[J y],rfl,Xh _,heap_alloc_new w _,Xh _,by decide,rfl,rfl⟩⟩
theorem ZBn(rb:Nat)(sch:BA)(v:Value)(bs:LA)(w:World)(hsc:w.cell? ⟨rb,0,none⟩=some (J sch))(hv:ZbP w v bs)(hb:∀x∈bs,x.size<=1000000)(hl:bs.length<=1000000):Calls prog 218 #[.pointer (some ⟨rb,0,none⟩),v] w fun e w'=>∃v',e=Y v'/\ZbK w' w.heap.size v' (shorter (tl sch) bs)/\Nx w w':=by
 by_cases h0:bs=[]
 .subst h0
  have HF:=A (show shorter (tl sch) []=[]by unfold shorter;rw[ifN (by simp)];rfl)
  obtain⟨ao,cap,rfl,hlc,hcap,_,_⟩:=hv;unfold maxLen at hcap
  go_enter func218,ntmps218
  go_wp2;go_ret
  exact⟨_,rfl,by rw[HF.o];exact ZzQ _ _,Nx.rfl⟩
 have hlen:0<bs.length:=Xg.2 h0;obtain⟨b,off,cap,rfl,hlc,hcap,hr⟩:=hv.open_ hlen;have HCAP:=A hcap;unfold maxLen at hcap;have c0:=hr.cell hlen;simp only[Xd]at c0
 have hne:((bs.length:Int)==0)=false:=by simp only[beq_eq_false_iff_ne,ne_eq];omega
 have HDL:=A (show ∀W,Nx w W->RowAt 9 Value.string W b off bs.dropLast from fun W hW=>by rw[List.dropLast_eq_take];exact(hr.on hW).take _)
 have hdl:bs.dropLast.length=bs.length-1:=List.length_dropLast;have HDLL:=A hdl
 have hhd:bs.headD ⟨#[]⟩=bs[0]:=by cases bs with|nil=>exact absurd rfl h0|cons=>rfl
 have HHD:=A hhd;have hb0:=hb bs[0] (Xa _);clear hv hr hb h0 hdl hhd
 have HARM:=A (show ∀W,Nx w W->(∀j u,(bs.dropLast.map Value.string)[j]?=some u->W.cell? ((⟨b,off,none⟩:Addr).add j)=some u)from fun W hW=>ZHb (HDL.o W hW))
 have HLM:=A (show(bs.dropLast.map Value.string).length=bs.length-1 by rw[List.length_map];exact HDLL.o)
 have HONE:=A (show ∀u∈bs.dropLast.map Value.string,u.oneCell'=true by intro u hu;obtain⟨x,_,rfl⟩:=List.mem_map.1 hu;rfl)
 by_cases h1:bs.length=1
 focus
  have h1':((bs.length:Int)==1)=true:=by simp[h1]
  have hlx:bs=[bs[0]]:=by
   match bs,h1 with
   | [x],_=>rfl
  by_cases hf:tl sch=Zzu
  .have hf':=eqB hf
   simp only[Zzu]at hf'
   cases hd:drive (tl bs[0])
   .have HF:=A (show shorter (tl sch) bs=bs.dropLast by unfold shorter;rw[ifN (by rw[HHD.o,hd];simp)])
    have HD:=A hd;clear hd hf hlx h1
    go_enter func218,ntmps218
    go_wp2_with fail
    refine(ZgQ _ _ hb0).mono ?_
    rintro e w1 ⟨rfl,hn1⟩;rw[HD.o]
    go_wp2_with (at_builtin;go_must (refine ZdC w1 78 9 (J ByteArray.empty) 16 underlying78 Zgz rfl rfl _ _ rfl w.heap.size (.slice none 0 0) 0 [] rfl (World.ownsRow_nil _ _ _ _) ⟨b,off,none⟩ (bs.length-1) cap (bs.dropLast.map Value.string) rfl HLM.o (HARM.o _ hn1) HONE.o (by omega) (by decide) hn1.size ?_;intro v' w2 ho2 hb2 _;have HO2:=A ho2;clear ho2))
    go_ret
    exact⟨_,rfl,by rw[HF.o];have h:=HO2.o;rw[Xj,Xi,<-HDLL.o]at h;exact h,hn1.trans hb2⟩
   .have HF:=A (show shorter (tl sch) bs=[bs[0]]by unfold shorter;rw[ifP ⟨h1,hf,by rw[HHD.o];exact hd⟩];exact hlx)
    have HD:=A hd;clear hd hf hlx h1
    go_enter func218,ntmps218
    go_wp2_with fail
    refine(ZgQ _ _ hb0).mono ?_
    rintro e w1 ⟨rfl,hn1⟩;rw[HD.o];have c1:w1.cell? ⟨b,off,none⟩=some (J bs[0]):=(hn1.cell (p:=⟨b,off,none⟩) (World.block_lt_of_cell? w ⟨b,off,none⟩ c0)).trans c0;go_wp2;go_ret
    exact⟨_,rfl,by rw[HF.o];exact ZCd (ZHc w1 _) hn1.size,hn1.alloc _⟩
  focus
   have hf':=neB hf;simp only[Zzu]at hf'
   have HF:=A (show shorter (tl sch) bs=bs.dropLast by unfold shorter;rw[ifN (fun h=>hf h.2.1)])
   clear hf hlx h1
 rotate_left
 focus
  have h1':((bs.length:Int)==1)=false:=by simp only[beq_eq_false_iff_ne,ne_eq];omega
  have HF:=A (show shorter (tl sch) bs=bs.dropLast by unfold shorter;rw[ifN (fun h=>h1 h.1)])
  clear h1
 all_goals
  go_enter func218,ntmps218
  go_wp2_with (at_builtin;go_must (refine ZdC w 78 9 (J ByteArray.empty) 16 underlying78 Zgz rfl rfl _ _ rfl w.heap.size (.slice none 0 0) 0 [] rfl (World.ownsRow_nil _ _ _ _) ⟨b,off,none⟩ (bs.length-1) cap (bs.dropLast.map Value.string) rfl HLM.o (HARM.o w Nx.rfl) HONE.o (by omega) (by decide) (Xh _) ?_;intro v' w2 ho2 hb2 _;have HO2:=A ho2;clear ho2))
  go_ret
  exact⟨_,rfl,by rw[HF.o];have h:=HO2.o;rw[Xj,Xi,<-HDLL.o]at h;exact h,(Below.refl w.heap.size w).trans hb2⟩
def fourGo(n:Nat):Nat->Int->List (List Int)->Int×Bool
 | _,sum,[]=>(sum,true)
 | i,sum,p::r=>
  if(valueOf p).2=false∨(if i+1=n then 256^(4-i)else 256)<=(valueOf p).1 then(0,false)
  else fourGo n (i+1) (sum+(valueOf p).1*(if i+1=n then 1 else 256^(3-i))) r
def fourOf(ps:List (List Int)):Int×Bool:=if 4<ps.length then(0,false)else fourGo ps.length 0 0 ps
theorem FA.at_{w:World}{vs:List Value}{ps:List LI}(h:FA w vs ps){i:Nat}(hi:i<ps.length):IntsAt w (vs[i]'(by have:=h.1;omega)) ps[i]:=h.2 i _ hi
theorem ZMo(base:Int)(hb:0<=base)(t:LB):∀n:Int,0<=n->n<=1099511627776->0<=(fin (vGo base n t)).1/\(fin (vGo base n t)).1<=1099511627776:=by
 induction t with
 | nil=>intro n h0 h1;exact⟨h0,h1⟩
 | cons c r ih=>
  intro n h0 h1;rw[vGo]
  split
  .exact⟨by decide,by decide⟩
  .refine ih _ ?_ ?_
   .unfold ZfP
    split
    .omega
    .have:0<=n*base:=Int.mul_nonneg h0 hb
     omega
   .unfold ZfP
    split<;>omega
theorem ZC9(l:LI):0<=(valueOf l).1/\(valueOf l).1<=1099511627776:=by
 unfold valueOf valueStr
 split
 .exact⟨by decide,by decide⟩
 split
 rotate_left
 focus
  split
  rotate_left
 all_goals
  exact ZMo _ (by decide) _ _ (by decide) (by decide)
theorem Zz9(n i:Nat)(sum:Int)(ps:List LI)(h:i<ps.length)(T P:Int)(hT:(if i+1=n then 256^(4-i)else 256)=T)(hP:(if i+1=n then 1 else 256^(3-i))=P):fourGo n i sum (ps.drop i)=if(valueOf ps[i]).2=false∨T<=(valueOf ps[i]).1 then(0,false)else fourGo n (i+1) (sum+(valueOf ps[i]).1*P) (ps.drop (i+1)):=by rw[List.drop_eq_getElem_cons h,fourGo,hT,hP]
theorem ZDT(v:Value)(ps:List LI)(w:World)(hv:PartsAt w v ps)(hn:∀p∈ps,p.length<=100000)(hp:∀p∈ps,∀c∈p,Pt c):Calls prog 251 #[v] w fun e w'=>e=Y (.tuple #[I X (fourOf ps).1,C (fourOf ps).2])/\Nx w w':=by
 obtain⟨vs,hvs,hfa⟩:=hv;have hlen:=hfa.1;have HFA:=A hfa;have HPN:=A hn;have HPP:=A hp;clear hfa hn hp;obtain⟨ao,cap,rfl,hlc,hcap,hnone,hsome⟩:=hvs;unfold maxLen at hcap
 by_cases h4:4<ps.length
 .have HE:=A (show fourOf ps=(0,false)by unfold fourOf;rw[ifP h4])
  go_enter func251,ntmps251
  go_wp2;go_ret2
  exact⟨by rw[HE.o];rfl,Nx.rfl⟩
 have h4':decide (4<(ps.length:Int))=false:=by simp only[decide_eq_false_iff_not];omega
 have HE0:=A (show fourOf ps=fourGo ps.length 0 0 ps by unfold fourOf;rw[ifN h4])
 go_enter func251,ntmps251
 go_wp2
 go_loopw [5,6] (fun x i wr=>∃(k:Nat) (sum:Int),k<=ps.length/\i=I X k/\x=I X sum/\0<=sum/\sum<=k*17592186044416/\fourOf ps=fourGo ps.length k sum (ps.drop k)/\Nx w wr) (fun _ i _=>ps.length-(intOf i).toNat)
 case atStart=>exact⟨0,0,Xk _,rfl,rfl,by omega,by omega,HE0.o,Nx.rfl⟩
 case round=>
  clear HE0;obtain⟨k,sum,hk,rfl,rfl,hs0,hs1,hE,hnx⟩:=hrel;have HE:=A hE;have HN:=A hnx;clear hE hnx
  by_cases hlt:k<ps.length
  .obtain⟨a,ha⟩:=Zv (k:=k) (by omega) hnone
   subst ha;obtain⟨b,off,rfl,hr⟩:=hsome a rfl
   have hck:=(hr.on HN.o).cell (i:=k) (by omega)
   simp only[id]at hck;have HVK:=A ((HFA.o.at_ hlt).on HN.o);clear hnone hsome hr;obtain⟨hv0,hv1⟩:=ZC9 ps[k]
   have hk4:k=0∨k=1∨k=2∨k=3:=by omega
   by_cases hlast:k+1=ps.length
   .have hlast1:¬k<ps.length-1:=by omega
    rcases hk4 with rfl|rfl|rfl|rfl
    .have HS:=A (Zz9 ps.length 0 sum ps hlt 4294967296 1 (by rw[ifP hlast];decide) (by rw[ifP hlast]))
     have hrel1:((ps.length:Int)-1<=0):=by omega
     clear hlast hlast1;simp only[Xd]at hck;go_wp2_with fail
     refine(ZaU _ ps[0] _ HVK.o (HPN.o _ (Xa _)) (HPP.o _ (Xa _))).mono ?_
     rintro e w1 ⟨rfl,hn1⟩;generalize hq:valueOf ps[0]=q at *;clear hq;obtain⟨vv,ok⟩:=q;simp only at hv0 hv1 HS;have HN1:=A (HN.o.then hn1);clear hn1;go_wp2_with fail
     go_loop [9,10,11] (fun top place kk=>∃m:Nat,0<=m/\m<=3/\kk=I X m/\top=I X (256*256^(m-0))/\place=I X 1) (fun _ _ kk=>3-(intOf kk).toNat)
     case atStart=>exact⟨0,by omega,by omega,rfl,rfl,rfl⟩
     case round=>
      obtain⟨m,hm0,hm3,rfl,rfl,rfl⟩:=hrel
      have hm4:m=0∨m=1∨m=2∨m=3:=by omega
      by_cases hm:m<3
      .rcases hm4 with rfl|rfl|rfl|rfl
       .go_wp2
        go_round
        exact⟨1,by omega,by omega,rfl,rfl,rfl⟩
        simp[intOf]
       .go_wp2
        go_round
        exact⟨2,by omega,by omega,rfl,rfl,rfl⟩
        simp[intOf]
       .go_wp2
        go_round
        exact⟨3,by omega,by omega,rfl,rfl,rfl⟩
        simp[intOf]
       .omega
      .have hm3':m=3:=by omega
       subst hm3';clear hm hm4 hm0 hm3;simp only[Nat.reduceSub,Int.reducePow,Int.reduceMul]
       cases ok
       .have HF:=A (show fourOf ps=(0,false)by rw[HE.o,HS.o,ifP (Xc rfl)])
        go_wp2;go_ret2
        exact⟨by rw[HF.o];rfl,HN1.o⟩
       by_cases hge:4294967296<=vv
       .have HF:=A (show fourOf ps=(0,false)by rw[HE.o,HS.o,ifP (Xe hge)])
        go_wp2;go_ret2
        exact⟨by rw[HF.o];rfl,HN1.o⟩
       .have HF:=A (show fourOf ps=fourGo ps.length (0+1) (sum+vv) (ps.drop (0+1))by rw[HE.o,HS.o,ifN (by simp only[Xb,false_or];exact hge),Xf])
        go_wp2
        go_roundw
        exact⟨_,_,_,_,⟨1,by omega,rfl,sum+vv,rfl,by omega,by omega,HF.o,HN1.o⟩,rfl,rfl,rfl,rfl⟩
        simp[intOf];omega
    .have HS:=A (Zz9 ps.length 1 sum ps hlt 16777216 1 (by rw[ifP hlast];decide) (by rw[ifP hlast]))
     have hrel1:((ps.length:Int)-1<=1):=by omega
     clear hlast hlast1
     skip
     go_wp2_with fail
     refine(ZaU _ ps[1] _ HVK.o (HPN.o _ (Xa _)) (HPP.o _ (Xa _))).mono ?_
     rintro e w1 ⟨rfl,hn1⟩;generalize hq:valueOf ps[1]=q at *;clear hq;obtain⟨vv,ok⟩:=q;simp only at hv0 hv1 HS;have HN1:=A (HN.o.then hn1);clear hn1;go_wp2_with fail
     go_loop [9,10,11] (fun top place kk=>∃m:Nat,1<=m/\m<=3/\kk=I X m/\top=I X (256*256^(m-1))/\place=I X 1) (fun _ _ kk=>3-(intOf kk).toNat)
     case atStart=>exact⟨1,by omega,by omega,rfl,rfl,rfl⟩
     case round=>
      obtain⟨m,hm0,hm3,rfl,rfl,rfl⟩:=hrel
      have hm4:m=1∨m=2∨m=3:=by omega
      by_cases hm:m<3
      .rcases hm4 with rfl|rfl|rfl
       .go_wp2
        go_round
        exact⟨2,by omega,by omega,rfl,rfl,rfl⟩
        simp[intOf]
       .go_wp2
        go_round
        exact⟨3,by omega,by omega,rfl,rfl,rfl⟩
        simp[intOf]
       .omega
      .have hm3':m=3:=by omega
       subst hm3';clear hm hm4 hm0 hm3;simp only[Nat.reduceSub,Int.reducePow,Int.reduceMul]
       cases ok
       .have HF:=A (show fourOf ps=(0,false)by rw[HE.o,HS.o,ifP (Xc rfl)])
        go_wp2;go_ret2
        exact⟨by rw[HF.o];rfl,HN1.o⟩
       by_cases hge:16777216<=vv
       .have HF:=A (show fourOf ps=(0,false)by rw[HE.o,HS.o,ifP (Xe hge)])
        go_wp2;go_ret2
        exact⟨by rw[HF.o];rfl,HN1.o⟩
       .have HF:=A (show fourOf ps=fourGo ps.length (1+1) (sum+vv) (ps.drop (1+1))by rw[HE.o,HS.o,ifN (by simp only[Xb,false_or];exact hge),Xf])
        go_wp2
        go_roundw
        exact⟨_,_,_,_,⟨2,by omega,rfl,sum+vv,rfl,by omega,by omega,HF.o,HN1.o⟩,rfl,rfl,rfl,rfl⟩
        simp[intOf];omega
    .have HS:=A (Zz9 ps.length 2 sum ps hlt 65536 1 (by rw[ifP hlast];decide) (by rw[ifP hlast]))
     have hrel1:((ps.length:Int)-1<=2):=by omega
     clear hlast hlast1
     skip
     go_wp2_with fail
     refine(ZaU _ ps[2] _ HVK.o (HPN.o _ (Xa _)) (HPP.o _ (Xa _))).mono ?_
     rintro e w1 ⟨rfl,hn1⟩;generalize hq:valueOf ps[2]=q at *;clear hq;obtain⟨vv,ok⟩:=q;simp only at hv0 hv1 HS;have HN1:=A (HN.o.then hn1);clear hn1;go_wp2_with fail
     go_loop [9,10,11] (fun top place kk=>∃m:Nat,2<=m/\m<=3/\kk=I X m/\top=I X (256*256^(m-2))/\place=I X 1) (fun _ _ kk=>3-(intOf kk).toNat)
     case atStart=>exact⟨2,by omega,by omega,rfl,rfl,rfl⟩
     case round=>
      obtain⟨m,hm0,hm3,rfl,rfl,rfl⟩:=hrel
      have hm4:m=2∨m=3:=by omega
      by_cases hm:m<3
      .rcases hm4 with rfl|rfl
       .go_wp2
        go_round
        exact⟨3,by omega,by omega,rfl,rfl,rfl⟩
        simp[intOf]
       .omega
      .have hm3':m=3:=by omega
       subst hm3';clear hm hm4 hm0 hm3;simp only[Nat.reduceSub,Int.reducePow,Int.reduceMul]
       cases ok
       .have HF:=A (show fourOf ps=(0,false)by rw[HE.o,HS.o,ifP (Xc rfl)])
        go_wp2;go_ret2
        exact⟨by rw[HF.o];rfl,HN1.o⟩
       by_cases hge:65536<=vv
       .have HF:=A (show fourOf ps=(0,false)by rw[HE.o,HS.o,ifP (Xe hge)])
        go_wp2;go_ret2
        exact⟨by rw[HF.o];rfl,HN1.o⟩
       .have HF:=A (show fourOf ps=fourGo ps.length (2+1) (sum+vv) (ps.drop (2+1))by rw[HE.o,HS.o,ifN (by simp only[Xb,false_or];exact hge),Xf])
        go_wp2
        go_roundw
        exact⟨_,_,_,_,⟨3,by omega,rfl,sum+vv,rfl,by omega,by omega,HF.o,HN1.o⟩,rfl,rfl,rfl,rfl⟩
        simp[intOf];omega
    .have HS:=A (Zz9 ps.length 3 sum ps hlt 256 1 (by rw[ifP hlast];decide) (by rw[ifP hlast]))
     have hrel1:((ps.length:Int)-1<=3):=by omega
     clear hlast hlast1
     skip
     go_wp2_with fail
     refine(ZaU _ ps[3] _ HVK.o (HPN.o _ (Xa _)) (HPP.o _ (Xa _))).mono ?_
     rintro e w1 ⟨rfl,hn1⟩;generalize hq:valueOf ps[3]=q at *;clear hq;obtain⟨vv,ok⟩:=q;simp only at hv0 hv1 HS;have HN1:=A (HN.o.then hn1);clear hn1;go_wp2_with fail
     go_loop [9,10,11] (fun top place kk=>∃m:Nat,3<=m/\m<=3/\kk=I X m/\top=I X (256*256^(m-3))/\place=I X 1) (fun _ _ kk=>3-(intOf kk).toNat)
     case atStart=>exact⟨3,by omega,by omega,rfl,rfl,rfl⟩
     case round=>
      obtain⟨m,hm0,hm3,rfl,rfl,rfl⟩:=hrel
      have hm4:m=3:=by omega
      by_cases hm:m<3
      .omega
      .have hm3':m=3:=by omega
       subst hm3';clear hm hm4 hm0 hm3;simp only[Nat.reduceSub,Int.reducePow,Int.reduceMul]
       cases ok
       .have HF:=A (show fourOf ps=(0,false)by rw[HE.o,HS.o,ifP (Xc rfl)])
        go_wp2;go_ret2
        exact⟨by rw[HF.o];rfl,HN1.o⟩
       by_cases hge:256<=vv
       .have HF:=A (show fourOf ps=(0,false)by rw[HE.o,HS.o,ifP (Xe hge)])
        go_wp2;go_ret2
        exact⟨by rw[HF.o];rfl,HN1.o⟩
       .have HF:=A (show fourOf ps=fourGo ps.length (3+1) (sum+vv) (ps.drop (3+1))by rw[HE.o,HS.o,ifN (by simp only[Xb,false_or];exact hge),Xf])
        go_wp2
        go_roundw
        exact⟨_,_,_,_,⟨4,by omega,rfl,sum+vv,rfl,by omega,by omega,HF.o,HN1.o⟩,rfl,rfl,rfl,rfl⟩
        simp[intOf];omega
   .rcases hk4 with rfl|rfl|rfl|rfl
    .have HS:=A (Zz9 ps.length 0 sum ps hlt 256 16777216 (by rw[ifN hlast]) (by rw[ifN hlast];decide))
     have hrel1:(0<(ps.length:Int)-1):=by omega
     clear hlast;simp only[Xd]at hck;go_wp2_with fail
     refine(ZaU _ ps[0] _ HVK.o (HPN.o _ (Xa _)) (HPP.o _ (Xa _))).mono ?_
     rintro e w1 ⟨rfl,hn1⟩;generalize hq:valueOf ps[0]=q at *;clear hq;obtain⟨vv,ok⟩:=q;simp only at hv0 hv1 HS;have HN1:=A (HN.o.then hn1);clear hn1;go_wp2_with fail
     go_loop [9,10,11] (fun top place kk=>∃m:Nat,0<=m/\m<=3/\kk=I X m/\top=I X 256/\place=I X (256^(m-0))) (fun _ _ kk=>3-(intOf kk).toNat)
     case atStart=>exact⟨0,by omega,by omega,rfl,rfl,rfl⟩
     case round=>
      obtain⟨m,hm0,hm3,rfl,rfl,rfl⟩:=hrel
      have hm4:m=0∨m=1∨m=2∨m=3:=by omega
      by_cases hm:m<3
      .rcases hm4 with rfl|rfl|rfl|rfl
       .go_wp2
        go_round
        exact⟨1,by omega,by omega,rfl,rfl,rfl⟩
        simp[intOf]
       .go_wp2
        go_round
        exact⟨2,by omega,by omega,rfl,rfl,rfl⟩
        simp[intOf]
       .go_wp2
        go_round
        exact⟨3,by omega,by omega,rfl,rfl,rfl⟩
        simp[intOf]
       .omega
      .have hm3':m=3:=by omega
       subst hm3';clear hm hm4 hm0 hm3;simp only[Nat.reduceSub,Int.reducePow]
       cases ok
       .have HF:=A (show fourOf ps=(0,false)by rw[HE.o,HS.o,ifP (Xc rfl)])
        go_wp2;go_ret2
        exact⟨by rw[HF.o];rfl,HN1.o⟩
       by_cases hge:256<=vv
       .have HF:=A (show fourOf ps=(0,false)by rw[HE.o,HS.o,ifP (Xe hge)])
        go_wp2;go_ret2
        exact⟨by rw[HF.o];rfl,HN1.o⟩
       .have HF:=A (show fourOf ps=fourGo ps.length (0+1) (sum+vv*16777216) (ps.drop (0+1))by rw[HE.o,HS.o,ifN (by simp only[Xb,false_or];exact hge)])
        go_wp2
        go_roundw
        exact⟨_,_,_,_,⟨1,by omega,rfl,sum+vv*16777216,rfl,by omega,by omega,HF.o,HN1.o⟩,rfl,rfl,rfl,rfl⟩
        simp[intOf];omega
    .have HS:=A (Zz9 ps.length 1 sum ps hlt 256 65536 (by rw[ifN hlast]) (by rw[ifN hlast];decide))
     have hrel1:(1<(ps.length:Int)-1):=by omega
     clear hlast
     skip
     go_wp2_with fail
     refine(ZaU _ ps[1] _ HVK.o (HPN.o _ (Xa _)) (HPP.o _ (Xa _))).mono ?_
     rintro e w1 ⟨rfl,hn1⟩;generalize hq:valueOf ps[1]=q at *;clear hq;obtain⟨vv,ok⟩:=q;simp only at hv0 hv1 HS;have HN1:=A (HN.o.then hn1);clear hn1;go_wp2_with fail
     go_loop [9,10,11] (fun top place kk=>∃m:Nat,1<=m/\m<=3/\kk=I X m/\top=I X 256/\place=I X (256^(m-1))) (fun _ _ kk=>3-(intOf kk).toNat)
     case atStart=>exact⟨1,by omega,by omega,rfl,rfl,rfl⟩
     case round=>
      obtain⟨m,hm0,hm3,rfl,rfl,rfl⟩:=hrel
      have hm4:m=1∨m=2∨m=3:=by omega
      by_cases hm:m<3
      .rcases hm4 with rfl|rfl|rfl
       .go_wp2
        go_round
        exact⟨2,by omega,by omega,rfl,rfl,rfl⟩
        simp[intOf]
       .go_wp2
        go_round
        exact⟨3,by omega,by omega,rfl,rfl,rfl⟩
        simp[intOf]
       .omega
      .have hm3':m=3:=by omega
       subst hm3';clear hm hm4 hm0 hm3;simp only[Nat.reduceSub,Int.reducePow]
       cases ok
       .have HF:=A (show fourOf ps=(0,false)by rw[HE.o,HS.o,ifP (Xc rfl)])
        go_wp2;go_ret2
        exact⟨by rw[HF.o];rfl,HN1.o⟩
       by_cases hge:256<=vv
       .have HF:=A (show fourOf ps=(0,false)by rw[HE.o,HS.o,ifP (Xe hge)])
        go_wp2;go_ret2
        exact⟨by rw[HF.o];rfl,HN1.o⟩
       .have HF:=A (show fourOf ps=fourGo ps.length (1+1) (sum+vv*65536) (ps.drop (1+1))by rw[HE.o,HS.o,ifN (by simp only[Xb,false_or];exact hge)])
        go_wp2
        go_roundw
        exact⟨_,_,_,_,⟨2,by omega,rfl,sum+vv*65536,rfl,by omega,by omega,HF.o,HN1.o⟩,rfl,rfl,rfl,rfl⟩
        simp[intOf];omega
    .have HS:=A (Zz9 ps.length 2 sum ps hlt 256 256 (by rw[ifN hlast]) (by rw[ifN hlast];decide))
     have hrel1:(2<(ps.length:Int)-1):=by omega
     clear hlast
     skip
     go_wp2_with fail
     refine(ZaU _ ps[2] _ HVK.o (HPN.o _ (Xa _)) (HPP.o _ (Xa _))).mono ?_
     rintro e w1 ⟨rfl,hn1⟩;generalize hq:valueOf ps[2]=q at *;clear hq;obtain⟨vv,ok⟩:=q;simp only at hv0 hv1 HS;have HN1:=A (HN.o.then hn1);clear hn1;go_wp2_with fail
     go_loop [9,10,11] (fun top place kk=>∃m:Nat,2<=m/\m<=3/\kk=I X m/\top=I X 256/\place=I X (256^(m-2))) (fun _ _ kk=>3-(intOf kk).toNat)
     case atStart=>exact⟨2,by omega,by omega,rfl,rfl,rfl⟩
     case round=>
      obtain⟨m,hm0,hm3,rfl,rfl,rfl⟩:=hrel
      have hm4:m=2∨m=3:=by omega
      by_cases hm:m<3
      .rcases hm4 with rfl|rfl
       .go_wp2
        go_round
        exact⟨3,by omega,by omega,rfl,rfl,rfl⟩
        simp[intOf]
       .omega
      .have hm3':m=3:=by omega
       subst hm3';clear hm hm4 hm0 hm3;simp only[Nat.reduceSub,Int.reducePow]
       cases ok
       .have HF:=A (show fourOf ps=(0,false)by rw[HE.o,HS.o,ifP (Xc rfl)])
        go_wp2;go_ret2
        exact⟨by rw[HF.o];rfl,HN1.o⟩
       by_cases hge:256<=vv
       .have HF:=A (show fourOf ps=(0,false)by rw[HE.o,HS.o,ifP (Xe hge)])
        go_wp2;go_ret2
        exact⟨by rw[HF.o];rfl,HN1.o⟩
       .have HF:=A (show fourOf ps=fourGo ps.length (2+1) (sum+vv*256) (ps.drop (2+1))by rw[HE.o,HS.o,ifN (by simp only[Xb,false_or];exact hge)])
        go_wp2
        go_roundw
        exact⟨_,_,_,_,⟨3,by omega,rfl,sum+vv*256,rfl,by omega,by omega,HF.o,HN1.o⟩,rfl,rfl,rfl,rfl⟩
        simp[intOf];omega
    .omega
  .have HF:=A (show fourOf ps=(sum,true)by rw[HE.o,List.drop_of_length_le (by omega),fourGo])
   go_wp2;go_ret2
   exact⟨by rw[HF.o];rfl,HN.o⟩
end Go.Proofs.YtchkhibgbnhjpabGreatDoor
