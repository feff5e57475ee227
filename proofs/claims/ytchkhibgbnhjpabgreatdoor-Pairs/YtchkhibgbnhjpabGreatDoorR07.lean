import Derived.Test.YtchkhibgbnhjpabGreatDoorR05
open List renaming length_take→Xb,length_drop→Xc,length_append→Xd,length_cons→Xe,mem_of_mem_drop→Xf,append_assoc→Xg,take_of_length_le→Xh,mem_cons_of_mem→Xi,mem_of_mem_take→Xj,getElem_mem→Xk,length_nil→Xl,all_append→Xm,getElem_append_left→Xn,mem_cons_self→Xo,all_eq_false→Xp,getElem_drop→Xq,all_cons→Xt
open Nat renaming zero_le→Xa
namespace Go.Proofs.YtchkhibgbnhjpabGreatDoor
open Go.RowKit
set_option maxHeartbeats 2000000
def parts(l:List Int)(t:List UInt8):List (List Int):=
 match l with
 | []=>[[]]
 | c::r=>if among c t then []::parts r t else
  match parts r t with
  | []=>[[c]]
  | p::q=>(c::p)::q
theorem ZkO(l:LI)(t:LB):∃p q,parts l t=p::q:=by
 cases l with
 | nil=>exact⟨[],[],rfl⟩
 | cons c r=>
  rw[parts]
  split
  ·exact⟨_,_,rfl⟩
  ·split<;>exact⟨_,_,rfl⟩
theorem Zf7(l:LI)(t:LB):parts l t=if(cut l t).2.2 then(cut l t).1::parts (cut l t).2.1 t else [(cut l t).1]:=by
 induction l with
 | nil=>simp[parts,cut]
 | cons c r ih=>
  cases h:among c t
  ·have hc:cut (c::r) t=(c::(cut r t).1,(cut r t).2):=by simp[cut,h]
   rw[parts,if_neg (by simp[h]),hc,ih]
   cases h2:(cut r t).2.2<;>simp
  ·have hc:cut (c::r) t=([],r,true):=by simp[cut,h]
   rw[parts,if_pos h,hc]
   simp
theorem Zce(l:LI)(t:LB):(cut l t).1.length+(cut l t).2.1.length≤l.length∧((cut l t).2.2=true→(cut l t).2.1.length<l.length):=by
 induction l with
 | nil=>simp[cut]
 | cons c r ih=>
  cases h:among c t
  ·have hc:cut (c::r) t=(c::(cut r t).1,(cut r t).2):=by simp[cut,h]
   rw[hc];simp only[Xe]
   exact⟨by omega,fun hh=>by have:=ih.2 hh;omega⟩
  ·have hc:cut (c::r) t=([],r,true):=by simp[cut,h]
   rw[hc]
   simp
theorem ZR{l:LI}{t:LB}{c:Int}(h:c∈(cut l t).1∨c∈(cut l t).2.1):c∈l:=by
 induction l with
 | nil=>simp[cut]at h
 | cons x r ih=>
  cases hx:among x t
  ·have hc:cut (x::r) t=(x::(cut r t).1,(cut r t).2):=by simp[cut,hx]
   rw[hc]at h;simp only[List.mem_cons]at h ⊢;rcases h with(h|h)|h
   ·exact Or.inl h
   ·exact Or.inr (ih (Or.inl h))
   ·exact Or.inr (ih (Or.inr h))
  ·have hc:cut (x::r) t=([],r,true):=by simp[cut,hx]
   rw[hc]at h;simp only[List.not_mem_nil,false_or]at h;exact Xi _ h
def FA(w:World)(vs:List Value)(ps:List (List Int)):Prop:=vs.length=ps.length∧∀i,(h:i<vs.length)→(h':i<ps.length)→IntsAt w vs[i] ps[i]
theorem FA.nil(w:World):FA w [] []:=⟨rfl,fun i h=>by simp at h⟩
theorem FA.on{w w':World}{vs:List Value}{ps:List LI}(h:FA w vs ps)(hb:Nx w w'):FA w' vs ps:=⟨h.1,fun i h1 h2=>(h.2 i h1 h2).on hb⟩
theorem FA.kp{w w':World}{vs:List Value}{ps:List LI}{e:TypeId}(h:FA w vs ps)(hb:Kp e w w')(he:3≠e):FA w' vs ps:=⟨h.1,fun i h1 h2=>(h.2 i h1 h2).kp hb he⟩
theorem FA.snoc{w:World}{vs:List Value}{ps:List LI}(h:FA w vs ps){v:Value}{p:LI}(hv:IntsAt w v p):FA w (vs++[v]) (ps++[p]):=by
 refine⟨by simp[h.1],fun i h1 h2=>?_⟩
 by_cases hi:i<vs.length
 ·rw[Xn hi,Xn (by have:=h.1;omega)]
  exact h.2 i hi (by have:=h.1;omega)
 ·have hi2:i=vs.length:=by simp at h1;omega
  subst hi2
  rw[List.getElem_concat_length (by rfl)]
  have e:(ps++[p])[vs.length]'h2=p:=by simp[h.1]
  rw[e];exact hv
def PartsAt(w:World)(v:Value)(ps:List (List Int)):Prop:=∃vs:List Value,SlAt 124 id w v vs∧FA w vs ps
theorem IntsAt.one{w:World}{v:Value}{l:LI}(h:IntsAt w v l):v.oneCell'=true:=by
 obtain⟨ao,cap,rfl,_⟩:=h
 rfl
theorem ZlE{ops:Array Oper}{rest:List Oper}{o:Oper}{a:Act}{Q:Exit→Act→World→Prop}(w:World)(y:Value)(hy:y.oneCell'=true)
  (hgd:o.guard=none) (s x:Operand) (ho:o.op=.call { callee:=.builtin .append,args:=#[s,x],argTypes:=#[192,192] })
  (base:Nat) (v:Value) (l:List Value) (hs:a.eval s=v) (hown:w.ownsRow base 124 1 v l.length l) (hx:a.eval x=.slice (some ⟨w.heap.size,0,none⟩) 1 1)
  (hn:l.length<1099511627776) (hbase:base≤w.heap.size)
  (h:∀v' w',w'.ownsRow base 124 1 v' (l++[y]).length (l++[y])→Below base w w'→Kp 124 w w'→wpList Tryz.prog ops Q rest (a.put o.dst v') w'):
  wpList Tryz.prog ops Q (o::rest) a (w.alloc (.cells #[y] 124)):=by
 refine Zdy _ _ _ (.slice none 0 0) 24 Tryz.underlying192 Zvi rfl hgd s x ho base v l.length _ hs (World.ownsRow.alloc hown _) ⟨w.heap.size,0,none⟩ 1 1 [y] hx rfl (Zf4 (by simp)) (by simpa using hy) (by omega) (by decide) (by simp;omega) ?_
 intro v' w' h1 h2 h3
 refine h v' w' ?_ (((Below.refl base w).alloc hbase _).trans h2) ((Kp.rfl.alloc _).then h3)
 rw[Xd];exact h1
theorem ZdO(v:Value)(l:LI)(t:BA)(w:World)(ht:t.size≤maxLen)(hv:IntsAt w v l)(hn:l.length≤1000000):Calls Tryz.prog 205 #[v,.string t] w fun e w'=>∃v',e=.returned v'∧PartsAt w' v' (parts l (tl t))∧Nx w w':=by
 go_enter Tryz.func205,Tryz.ntmps205
 go_wp2
 go_loopw [0,5] (fun x o wr=>∃(m:LI) (vs:List Value) (ps:List LI),IntsAt wr x m∧wr.ownsRow w.heap.size 124 1 o vs.length vs∧FA wr vs ps∧parts l (tl t)=ps++parts m (tl t)∧ps.length+m.length≤l.length∧Nx w wr) (fun x _ _=>ZaT x)
 case atStart=>exact⟨l,[],[],hv,World.ownsRow_nil _ _ _ _,FA.nil _,rfl,by simp,Nx.rfl⟩
 case round=>
  obtain⟨m,vs,ps,hm,hown,hfa,hE,hlen,hnx⟩:=hrel;have HM:=Za hm;have HO:=Za hown;have HFA:=Za hfa;have HE:=Za hE;have HN:=Za hnx;have HLEN:=Za hlen;clear hm hown hfa hE hnx hlen;go_wp2_with fail
  refine(Zdx _ m t _ ht HM.out).mono ?_
  rintro e w1 ⟨v1,v2,rfl,hv1,hv2,hn1⟩
  obtain⟨ao1,cap1,hve1⟩:∃ao1 cap1,v1=.slice ao1 (cut m (tl t)).1.length cap1:=by obtain⟨ao1,cap1,e,_⟩:=hv1;exact⟨ao1,cap1,e⟩
  subst hve1;have HV1:=Za hv1;have HV2:=Za hv2;have HO1:=Za (ZbP HO.out hn1);have HF1:=Za (HFA.out.on hn1);have HN1:=Za (HN.out.then hn1);have hz:=HN1.out.size
  have hvl:vs.length<1099511627776:=by have:=HFA.out.1;have:=HLEN.out;omega
  have hone:=IntsAt.one hv1;have HCL:=Za (Zce m (tl t));have HPC:=Za (Zf7 m (tl t))
  have HML:=Za (show ZaT u0=m.length by obtain⟨ao,cap,e,_⟩:=HM.out;rw[e];rfl)
  clear hv1 hv2 hn1 HO HFA HN;generalize hcut:cut m (tl t)=q at *;clear hcut;obtain⟨q1,q2,more⟩:=q;simp only at *;have HF2:=Za (HF1.out.snoc HV1.out)
  cases more
  ·go_wp2_with (at_builtin;go_must (refine ZlE w1 (.slice ao1 q1.length cap1) hone rfl _ _ rfl w.heap.size u5 vs rfl HO1.out rfl hvl hz ?_;intro v' w2 ho2 hb2 hk2;have HO2:=Za ho2;clear ho2))
   go_ret
   refine⟨_,rfl,⟨_,ZQ (f:=id) (by rw[List.map_id];exact HO2.out),?_⟩,HN1.out.trans hb2⟩
   have hp:=HPC.out;simp only[Bool.false_eq_true,if_false]at hp;rw[HE.out,hp]
   exact HF2.out.kp hk2 (by decide)
  ·go_wp2_with (at_builtin;go_must (refine ZlE w1 (.slice ao1 q1.length cap1) hone rfl _ _ rfl w.heap.size u5 vs rfl HO1.out rfl hvl hz ?_;intro v' w2 ho2 hb2 hk2;have HO2:=Za ho2;clear ho2))
   go_roundw
   case rel=>
    refine⟨q2,vs++[_],ps++[q1],HV2.out.kp hk2 (by decide),HO2.out,HF2.out.kp hk2 (by decide),?_,?_,HN1.out.trans hb2⟩
    ·have hp:=HPC.out
     simp only[if_true]at hp;rw[HE.out,hp,Xg]
     rfl
    ·have:=HCL.out.2 rfl
     have:=HLEN.out;simp only[Xd,Xe,Xl]
     omega
   case measure=>
    have h1:=HCL.out.2 rfl
    have h2:ZaT v2=q2.length:=by obtain⟨ao,cap,e,_⟩:=HV2.out;rw[e];rfl
    have h3:=HML.out
    omega
def ZP(l:List Int):Bool:=l.all numeral && !l.isEmpty
theorem Zqy{l:LI}{k:Nat}(hk:k<l.length)(h:numeral l[k]=false):ZP l=false:=by
 unfold ZP;rw[Bool.and_eq_false_iff]
 left
 rw[Xp]
 exact⟨l[k],Xk _,by simp[h]⟩
theorem Zf8{p:Int→Bool}{l:LI}{k:Nat}(hk:k<l.length)(h:(l.take k).all p=true)(h1:p l[k]=true):(l.take (k+1)).all p=true:=by rw[Z3 l k hk,Xm,h];simp[h1]
theorem Z4(v:Value)(l:LI)(w:World)(hv:IntsAt w v l):Calls Tryz.prog 250 #[v] w fun e w'=>e=.returned (.bool (ZP l))∧w=w':=by
 obtain⟨ao,cap,rfl,hlc,hcap,hnone,hsome⟩:=hv;unfold maxLen at hcap
 go_enter Tryz.func250,Tryz.ntmps250
 go_wp2
 go_loop [3] (fun i=>∃k:Nat,k≤l.length∧i=.int .i64 k∧(l.take k).all numeral=true) (fun i=>l.length-(intOf i).toNat)
 case atStart=>exact⟨0,Xa _,rfl,rfl⟩
 case round=>
  obtain⟨k,hk,rfl,hto⟩:=hrel;have HT:=Za hto;clear hto
  by_cases hlt:k<l.length
  ·obtain⟨a,ha⟩:=Zw hlt hnone
   subst ha;obtain⟨b,off,rfl,hr⟩:=hsome a rfl;have hck:=hr.cell hlt;clear hnone hsome hr
   cases hnum:numeral l[k]
   ·have HF:=Za (Zqy hlt hnum)
    go_wp2_with (go_at_call 211;refine(ZcY _ _).mono ?_;rintro e w' ⟨rfl,rfl⟩)
    go_ret
    exact⟨by rw[HF.out];rfl,rfl⟩
   ·go_wp2_with (go_at_call 211;refine(ZcY _ _).mono ?_;rintro e w' ⟨rfl,rfl⟩)
    go_round
    case rel=>exact⟨k+1,by omega,by go_num,Zf8 hlt HT.out hnum⟩
    case measure=>simp[intOf];omega
  ·rw[Xh (by omega)]at HT
   by_cases h0:l=[]
   ·have HF:=Za (show ZP l=false by rw[h0];rfl)
    have h0':¬0<l.length:=by rw[h0];simp
    clear h0;go_wp2;go_ret
    exact⟨Zj (by rw[HF.out]),rfl⟩
   ·have HF:=Za (show ZP l=true by unfold ZP;rw[HT.out];simp[h0])
    have h0':0<l.length:=List.length_pos_iff.2 h0;go_wp2;go_ret
    exact⟨Zj (by rw[HF.out]),rfl⟩
def ZbE(n c:Int):Int:=if 65535<10*n+c-48 then 65536 else 10*n+c-48
def value(l:List Int):Int:=l.foldl ZbE 0
theorem value_snoc(l:LI)(c:Int):value (l++[c])=ZbE (value l) c:=by simp[value]
theorem ZlF(l:LI)(h:l.all numeral=true):0≤value l∧value l≤65536:=by
 have gen:∀(l:LI) (n:Int),0≤n→n≤65536→l.all numeral=true→0≤l.foldl ZbE n∧l.foldl ZbE n≤65536:=by
  intro l
  induction l with
  | nil=>intro n h0 h1 _;exact⟨h0,h1⟩
  | cons c r ih=>
   intro n h0 h1 h2;simp only[Xt,Bool.and_eq_true]at h2;have hc:=h2.1;simp only[numeral,decide_eq_true_eq]at hc
   refine ih _ ?_ ?_ h2.2<;>(unfold ZbE;split<;>omega)
 exact gen l 0 (by omega) (by omega) h
theorem Zsq(v:Value)(l:LI)(w:World)(hv:IntsAt w v l):Calls Tryz.prog 216 #[v] w fun e w'=>∃n:Int,e=.returned (.int .i64 n)∧(l.all numeral=true→n=value l)∧w=w':=by
 obtain⟨ao,cap,rfl,hlc,hcap,hnone,hsome⟩:=hv;unfold maxLen at hcap
 go_enter Tryz.func216,Tryz.ntmps216
 go_wp2
 go_loop [3,4] (fun x i=>∃(k:Nat) (n:Int),k≤l.length∧i=.int .i64 k∧x=.int .i64 n∧Hid ((l.take k).all numeral=true→n=value (l.take k))) (fun _ i=>l.length-(intOf i).toNat)
 case atStart=>exact⟨0,0,Xa _,rfl,rfl,fun _=>rfl⟩
 case round=>
  obtain⟨k,n,hk,rfl,rfl,HT⟩:=hrel
  by_cases hlt:k<l.length
  ·obtain⟨a,ha⟩:=Zw hlt hnone
   subst ha;obtain⟨b,off,rfl,hr⟩:=hsome a rfl;have hck:=hr.cell hlt;clear hnone hsome hr;have HS:=Za (Z3 l k hlt)
   by_cases hall:(l.take (k+1)).all numeral=true
   ·rw[HS.out,Xm,Bool.and_eq_true]at hall
    have hn:=HT.out hall.1;have hc:=hall.2;simp only[Xt,List.all_nil,Bool.and_true,numeral,decide_eq_true_eq]at hc;obtain⟨hc0,hc1⟩:=hc;have hr:=ZlF _ hall.1;rw[←hn]at hr;obtain⟨hr0,hr1⟩:=hr
    have HV:=Za (show value (l.take (k+1))=ZbE n l[k]by rw[HS.out,value_snoc,←hn])
    clear hn hall
    by_cases hbig:65535<10*n+l[k]-48
    ·have HV2:=Za (HV.out.trans (if_pos hbig))
     go_wp2
     go_round
     case rel=>exact⟨k+1,65536,by omega,by go_num,rfl,fun _=>HV2.out.symm⟩
     case measure=>simp[intOf];omega
    ·have HV2:=Za (HV.out.trans (if_neg hbig))
     go_wp2
     go_round
     case rel=>exact⟨k+1,10*n+l[k]-48,by omega,by go_num,rfl,fun _=>HV2.out.symm⟩
     case measure=>simp[intOf];omega
   ·have HALL:=Za hall
    clear hall;go_wp2
    all_goals
     go_round
     case rel=>exact⟨k+1,_,by omega,by go_num,rfl,fun h=>absurd h HALL.out⟩
     case measure=>simp[intOf];omega
  ·rw[Xh (by omega)]at HT
   go_wp2;go_ret
   exact⟨_,rfl,fun h=>HT.out (List.all_eq_true.2 h),rfl⟩
def Zf9(n:Nat):UInt8:=(tl Zvb).getD n 0
def hexa(n:Nat):List UInt8:=if n<16 then [Zf9 n]else hexa (n/16)++[Zf9 (n%16)]
 termination_by n
 decreasing_by omega
theorem Zvt(n:Nat):(hexa n).length≤n+1:=by
 induction n using Nat.strongRecOn with
 | ind n ih=>
  rw[hexa]
  split
  ·simp
  ·have:=ih (n/16) (by omega)
   simp only[Xd,Xe,Xl]
   omega
theorem Zvu(k:Nat)(h:k<16):tl (Zvb.extract k (k+1))=[Zf9 k]:=by
 have h':k<Zvb.size:=h
 rw[tl_extract,Zv Zvb k h',List.drop_append_of_le_length (by rw[Xb,tl_length];omega),List.drop_of_length_le (by rw[Xb];omega)]
 have e:Zf9 k=Zvb[k]:=by unfold Zf9;rw[List.getD_eq_getElem?_getD,List.getElem?_eq_getElem (by rw[tl_length];exact h'),Zep Zvb k h'];rfl
 rw[e];rfl
theorem Zo7(N:Nat):∀(n:Int) (w:World),0≤n→n≤N→N≤1000000 →
  Calls Tryz.prog 287 #[.int .i64 n] w fun e w'=>∃r:BA,e=.returned (.string r)∧tl r=hexa n.toNat∧Nx w w':=by
 induction N using Nat.strongRecOn with
 | ind N ih=>
  intro n w h0 h1 hN;obtain⟨m,rfl⟩:=Int.eq_ofNat_of_zero_le h0
  have hcut:=Zvu (m%16) (by omega)
  have HC:=Za hcut;clear hcut
  by_cases h9:m<16
  ·have HE:=Za (show hexa (m:Int).toNat=[Zf9 (m%16)]by rw[Int.toNat_natCast,hexa,if_pos h9,Nat.mod_eq_of_lt h9])
   clear ih
   go_enter Tryz.func287,Tryz.ntmps287
   go_wp2;go_ret
   exact⟨_,rfl,by rw[HE.out];exact HC.out,Nx.rfl⟩
  ·have IH:=Za (ih (N/16) (by omega))
   have HE:=Za (show hexa (m:Int).toNat=hexa ((m:Int)/16).toNat++[Zf9 (m%16)]by rw[Int.toNat_natCast,hexa,if_neg h9];rfl)
   clear ih
   go_enter Tryz.func287,Tryz.ntmps287
   go_wp2_with fail
   refine(IH.out _ _ (by omega) (by omega) (by omega)).mono ?_
   rintro e w1 ⟨r,rfl,hr,hn1⟩
   have hrs:r.size≤1000001:=by have h:=congrArg List.length hr;have h2:=Zvt ((m:Int)/16).toNat;rw[tl_length]at h;omega
   have HR:=Za hr;clear hr;go_wp2;go_ret
   exact⟨_,rfl,by rw[tl_append,HR.out,HE.out];exact congrArg _ HC.out,hn1⟩
def noughts(v:List Int)(i n:Nat):Bool:=((v.drop i).take n).all fun x=>x==0
theorem ZlG(v:LI)(i n:Nat)(h:i+n<v.length):noughts v i (n+1)=(noughts v i n&&v[i+n]==0):=by
 unfold noughts
 rw[List.take_succ_eq_append_getElem (by rw[Xc];omega),Xm,Xq]
 simp
theorem Znq(v:LI)(i k n:Nat)(hk:k<n)(h:i+k<v.length)(h0:¬v[i+k]=0):noughts v i n=false:=by
 unfold noughts;rw[Xp]
 refine⟨v[i+k],?_,by simp[h0]⟩
 have e:v[i+k]=((v.drop i).take n)[k]'(by rw[Xb,Xc];omega):=by rw[List.getElem_take,Xq]
 rw[e];exact Xk _
theorem Zij(v:Value)(l:LI)(i n:Nat)(w:World)(hv:IntsAt w v l)(hin:i+n≤l.length)(hl:l.length≤1000000):Calls Tryz.prog 246 #[v,.int .i64 i,.int .i64 n] w fun e w'=>e=.returned (.bool (noughts l i n))∧w=w':=by
 obtain⟨ao,cap,rfl,hlc,hcap,hnone,hsome⟩:=hv;unfold maxLen at hcap
 go_enter Tryz.func246,Tryz.ntmps246
 go_wp2
 go_loop [7] (fun x=>∃k:Nat,k≤n∧x=.int .i64 ((i+k:Nat):Int)∧noughts l i k=true) (fun x=>i+n-(intOf x).toNat)
 case atStart=>exact⟨0,Xa _,rfl,by simp[noughts]⟩
 case round=>
  obtain⟨k,hk,rfl,hto⟩:=hrel;have HT:=Za hto;clear hto
  by_cases hlt:k<n
  ·obtain⟨a,ha⟩:=Zw (k:=i+k) (by omega) hnone
   subst ha;obtain⟨b,off,rfl,hr⟩:=hsome a rfl
   have hck:=hr.cell (i:=i+k) (by omega)
   clear hnone hsome hr
   by_cases h0:l[i+k]=0
   ·have HS:=Za (show noughts l i (k+1)=true by rw[ZlG l i k (by omega),HT.out,h0];rfl)
    rw[h0]at hck;clear h0;go_wp2
    go_round
    case rel=>exact⟨k+1,by omega,by go_num,HS.out⟩
    case measure=>simp[intOf];omega
   ·have HS:=Za (Znq l i k n hlt (by omega) h0)
    have h0':(l[i+k] != 0)=true:=by simp[h0]
    clear h0;go_wp2;go_ret;exact⟨Zj HS.out.symm,rfl⟩
  ·have hkn:k=n:=by omega
   rw[hkn]at HT;clear hkn;go_wp2;go_ret;exact⟨Zj HT.out.symm,rfl⟩
def listed(l:List Int):List UInt8:=match l with | []=>[]|x::r=>hexa x.toNat++r.flatMap fun y=>58::hexa y.toNat
theorem Znr(l:LI)(y:Int):listed (l++[y])=if l=[]then hexa y.toNat else listed l++58::hexa y.toNat:=by cases l<;>simp[listed]
theorem ZgB(n:Nat)(h:n≤65535):(hexa n).length≤4:=by
 rw[hexa]
 split
 ·simp
 rw[hexa]
 split
 ·simp
 rw[hexa]
 split
 ·simp
 rw[hexa]
 split
 ·simp
 ·omega
theorem Zcf(l:LI)(h:∀x∈l,0≤x∧x≤65535):(listed l).length≤5*l.length:=by
 have gen:∀r:LI,(∀x∈r,0≤x∧x≤65535)→(r.flatMap fun y=>(58:UInt8)::hexa y.toNat).length≤5*r.length:=by
  intro r
  induction r with
  | nil=>simp
  | cons y r ih=>
   intro hr
   have h1:=ih fun x hx=>hr x (Xi _ hx)
   have h2:=ZgB y.toNat (by have:=hr y (Xo ..);omega)
   simp only[List.flatMap_cons,Xd,Xe]
   omega
 cases l with
 | nil=>simp[listed]
 | cons x r=>
  have h1:=gen r fun y hy=>h y (Xi _ hy)
  have h2:=ZgB x.toNat (by have:=h x (Xo ..);omega)
  simp only[listed,Xd,Xe]
  omega
theorem Zfc(v:Value)(l:LI)(w:World)(hv:IntsAt w v l)(hl:l.length≤8)(hp:∀x∈l,0≤x∧x≤65535):Calls Tryz.prog 247 #[v] w fun e w'=>∃r:BA,e=.returned (.string r)∧tl r=listed l∧Nx w w':=by
 obtain⟨ao,cap,rfl,hlc,hcap,hnone,hsome⟩:=hv;unfold maxLen at hcap
 go_enter Tryz.func247,Tryz.ntmps247
 go_wp2
 go_loopw [3,4] (fun t i wr=>∃(k:Nat) (r:BA),k≤l.length∧i=.int .i64 k∧t=.string r∧tl r=listed (l.take k)∧Nx w wr) (fun _ i _=>l.length-(intOf i).toNat)
 case atStart=>exact⟨0,_,Xa _,rfl,rfl,rfl,Nx.rfl⟩
 case round=>
  obtain⟨k,r,hk,rfl,rfl,hr,hnx⟩:=hrel
  by_cases hlt:k<l.length
  ·obtain⟨a,ha⟩:=Zw hlt hnone
   subst ha;obtain⟨b,off,rfl,hrow⟩:=hsome a rfl;have hck:=(hrow.on hnx).cell hlt;have hpk:=hp l[k] (Xk _)
   have hrs:r.size≤100:=by
    have h1:=Zcf (l.take k) fun x hx=>hp x (Xj hx)
    rw[←hr,tl_length]at h1;have:=List.length_take_le k l
    omega
   have HLS:=Za ((congrArg listed (Z3 l k hlt)).trans (Znr (l.take k) l[k]));have HR:=Za hr;have HN:=Za hnx
   have HX:=Za (ZgB l[k].toNat (by omega))
   clear hnone hsome hrow hr hnx hp;obtain⟨hp0,hp1⟩:=hpk
   by_cases hk0:0<k
   ·have HL:=Za (HLS.out.trans (if_neg (by intro h;have:=congrArg List.length h;rw[Xb,Xl]at this;omega)))
    go_wp2_with fail
    refine(Zo7 65535 _ _ hp0 (by omega) (by omega)).mono ?_
    rintro e w1 ⟨q,rfl,hq,hn1⟩
    have hqs:q.size≤4:=by have h:=HX.out;rw[←hq,tl_length]at h;exact h
    have HQ:=Za hq;clear hq;go_wp2
    go_roundw
    case rel=>exact⟨k+1,_,by omega,by go_num,rfl,by rw[HL.out,tl_append,tl_append,HR.out,HQ.out,Xg];rfl,HN.out.then hn1⟩
    case measure=>simp[intOf];omega
   ·have HL:=Za (HLS.out.trans (if_pos (by rw[show k=0 by omega];rfl)))
    have HR0:=Za (show tl r=[]by rw[HR.out,show k=0 by omega];rfl)
    go_wp2_with fail
    refine(Zo7 65535 _ _ hp0 (by omega) (by omega)).mono ?_
    rintro e w1 ⟨q,rfl,hq,hn1⟩
    have hqs:q.size≤4:=by have h:=HX.out;rw[←hq,tl_length]at h;exact h
    have HQ:=Za hq;clear hq;go_wp2
    go_roundw
    case rel=>exact⟨k+1,_,by omega,by go_num,rfl,by rw[HL.out,tl_append,HR0.out,HQ.out];rfl,HN.out.then hn1⟩
    case measure=>simp[intOf];omega
  ·rw[Xh (by omega)]at hr
   go_wp2;go_ret;exact⟨_,rfl,hr,hnx⟩
def briefFrom(v:List Int)(n i:Nat):List UInt8:=
 if n≤1 then listed v
 else if i+n≤8 then(if noughts v i n then listed (v.take i)++58::58::listed (v.drop (i+n))else briefFrom v n (i+1))
 else briefFrom v (n-1) 0
 termination_by (n,9-i)
 decreasing_by all_goals simp_wf<;>omega
def brief(v:List Int):List UInt8:=briefFrom v 8 0
theorem ZdP{l q:LI}(h:∀x∈l,0≤x∧x≤65535)(hq:∀x∈q,x∈l):∀x∈q,0≤x∧x≤65535:=fun x hx=>h x (hq x hx)
theorem Zsr(v:Value)(l:LI)(w:World)(hv:IntsAt w v l)(hl:l.length=8)(hp:∀x∈l,0≤x∧x≤65535):Calls Tryz.prog 214 #[v] w fun e w'=>∃r:BA,e=.returned (.string r)∧tl r=brief l∧Nx w w':=by
 have HV:=Za hv;have HP:=Za hp;have HL:=Za hl
 obtain⟨b,off,cap,rfl,hlc,hcap,hr⟩:=hv.open_ (k:=0) (by omega)
 have hlc':8≤cap:=by omega
 rw[hl];rw[hl]at HV;unfold maxLen at hcap;clear hl hp hlc;have HR:=Za hr;clear hr
 go_enter Tryz.func214,Tryz.ntmps214
 go_wp2
 go_loop [3] (fun x=>∃n:Nat,1≤n∧n≤8∧x=.int .i64 n∧brief l=briefFrom l n 0) (fun x=>(intOf x).toNat)
 case atStart=>exact⟨8,by omega,by omega,rfl,rfl⟩
 case round=>
  obtain⟨n,hn1,hn8,rfl,hE⟩:=hrel;have HE:=Za hE;clear hE
  by_cases h1:1<n
  ·go_wp2
   go_loop [4] (fun y=>∃i:Nat,i+n≤9∧y=.int .i64 i∧brief l=briefFrom l n i) (fun y=>9-(intOf y).toNat)
   case atStart=>exact⟨0,by omega,rfl,HE.out⟩
   case round=>
    clear HE;obtain⟨i,hi,rfl,hE⟩:=hrel;have HE:=Za hE;clear hE
    by_cases hin:i+n≤8
    ·cases hno:noughts l i n
     ·have HN:=Za (show brief l=briefFrom l n (i+1)by rw[HE.out,briefFrom,if_neg (by omega),if_pos hin,if_neg (by simp[hno])])
      go_wp2_with (go_at_call 246;refine(Zij _ l i n _ HV.out (by rw[HL.out];omega) (by rw[HL.out];omega)).mono ?_;rintro e w' ⟨rfl,rfl⟩)
      go_round
      case rel=>exact⟨i+1,by omega,by go_num,HN.out⟩
      case measure=>simp[intOf];omega
     ·have HN:=Za (show brief l=listed (l.take i)++58::58::listed (l.drop (i+n))by rw[HE.out,briefFrom,if_neg (by omega),if_pos hin,if_pos hno])
      have HS1:=Za (Zdw HR.out (cap:=cap) (by rw[HL.out];exact hlc') (by unfold maxLen;omega) i (by rw[HL.out];omega))
      go_wp2_with (go_at_call 246;refine(Zij _ l i n _ HV.out (by rw[HL.out];omega) (by rw[HL.out];omega)).mono ?_;rintro e w' ⟨rfl,rfl⟩)
      refine(Zfc _ _ _ HS1.out (by rw[Xb,HL.out];omega) (ZdP HP.out fun x hx=>Xj hx)).mono ?_
      rintro e w1 ⟨r1,rfl,hr1,hn1⟩
      have hrs1:r1.size≤40:=by have h:=Zcf (l.take i) (ZdP HP.out fun x hx=>Xj hx);rw[←hr1,tl_length,Xb,HL.out]at h;omega
      have HR1:=Za hr1;clear hr1;have HROW:=Za (HR.out.on hn1);have HS2:=Za (Zju HROW.out (i+n) 0)
      have HS3:=Za (ZfE HROW.out (cap:=cap) (by rw[HL.out];exact hlc') (by unfold maxLen;omega) (i+n) (by rw[HL.out];exact hin))
      rw[HL.out]at HS2 HS3;go_wp2_with fail
      ·refine(Zfc _ _ _ (HS2.out (by omega) (Xa _)) (by rw[Xc,HL.out];omega) (ZdP HP.out fun x hx=>Xf hx)).mono ?_
       rintro e w2 ⟨r2,rfl,hr2,hn2⟩
       have hrs2:r2.size≤40:=by have h:=Zcf (l.drop (i+n)) (ZdP HP.out fun x hx=>Xf hx);rw[←hr2,tl_length,Xc,HL.out]at h;omega
       have HR2:=Za hr2;clear hr2;go_wp2;go_ret
       exact⟨_,rfl,by rw[HN.out,tl_append,tl_append,HR1.out,HR2.out,Xg];rfl,hn1.then hn2⟩
      ·refine(Zfc _ _ _ HS3.out (by rw[Xc,HL.out];omega) (ZdP HP.out fun x hx=>Xf hx)).mono ?_
       rintro e w2 ⟨r2,rfl,hr2,hn2⟩
       have hrs2:r2.size≤40:=by have h:=Zcf (l.drop (i+n)) (ZdP HP.out fun x hx=>Xf hx);rw[←hr2,tl_length,Xc,HL.out]at h;omega
       have HR2:=Za hr2;clear hr2;go_wp2;go_ret
       exact⟨_,rfl,by rw[HN.out,tl_append,tl_append,HR1.out,HR2.out,Xg];rfl,hn1.then hn2⟩
    ·have HN:=Za (show brief l=briefFrom l (n-1) 0 by rw[HE.out,briefFrom,if_neg (by omega),if_neg hin])
     go_wp2
     go_round
     case rel=>exact⟨n-1,by omega,by omega,by go_num,HN.out⟩
     case measure=>simp[intOf];omega
  ·have HN:=Za (show brief l=listed l by rw[HE.out,briefFrom,if_pos (by omega)])
   go_wp2_with fail
   refine(Zfc _ l _ HV.out (by rw[HL.out];omega) HP.out).mono ?_
   rintro e w1 ⟨r1,rfl,hr1,hn1⟩;go_wp2;go_ret
   exact⟨_,rfl,by rw[HN.out];exact hr1,hn1⟩
def Zeu(base v d:Int):Int:=if 1099511627776<v*base+d then 1099511627776 else v*base+d
def vGo(base:Int):Int→List UInt8→Option Int
 | v,[]=>some v
 | v,c::r=>if digit c.toNat<0∨base≤digit c.toNat then none else vGo base (Zeu base v (digit c.toNat)) r
def fin(o:Option Int):Int×Bool:=match o with|none=>(0,false)|some v=>(v,true)
def valueStr(t:List UInt8):Int×Bool:=
 if t=[]then(0,false)else if 1<t.length∧t.take 2=[48,120]then fin (vGo 16 0 (t.drop 2))
 else if 1<t.length∧t.take 1=[48]then fin (vGo 8 0 (t.drop 1))else fin (vGo 10 0 t)
def valueOf(l:List Int):Int×Bool:=valueStr (lower (Zb l))
theorem Zga(s:BA):s.toList=tl s:=ByteArray.toList_eq s
theorem ZlH(l:LB):(lower l).length=l.length:=by simp[lower]
theorem ZhQ(base v:Int)(s:BA)(k:Nat)(h:k<s.size):vGo base v ((tl s).drop k)=if digit s[k].toNat<0∨base≤digit s[k].toNat then none else vGo base (Zeu base v (digit s[k].toNat)) ((tl s).drop (k+1)):=by rw[ZD s k h,vGo]
theorem ZaJ(v:Value)(l:LI)(w:World)(hv:IntsAt w v l)(hn:l.length≤100000)(hp:∀c∈l,Pt c):Calls Tryz.prog 249 #[v] w fun e w'=>e=.returned (.tuple #[.int .i64 (valueOf l).1,.bool (valueOf l).2])∧Nx w w':=by
 go_enter Tryz.func249,Tryz.ntmps249
 go_wp2_with fail
 refine(ZbC _ l _ hv (by omega) hp).mono ?_
 rintro e w1 ⟨r,rfl,hr,hn1⟩
 have hrs:r.size≤400000:=by have h:=Zbh l;rw[←hr,tl_length]at h;omega
 have HR:=Za hr;clear hr hp hv;go_wp2_with fail
 refine(ZeA _ _ (by omega)).mono ?_
 rintro e w2 ⟨t,rfl,ht,hn2⟩
 have hts:t.size≤400000:=by have h:=congrArg List.length ht;rw[ZlH,tl_length,tl_length]at h;omega
 have HT:=Za (show valueOf l=valueStr (tl t)by unfold valueOf;rw[←HR.out,←ht])
 have HN:=Za (hn1.then hn2);clear ht HR hn1 hn2 hn hrs
 by_cases h0:t.size=0
 ·have HE:=Za (show valueOf l=(0,false)by rw[HT.out,ZA h0];rfl)
  have h0':=Zm h0;clear h0;go_wp2;go_ret2
  exact⟨by rw[HE.out];rfl,HN.out⟩
 have h0':=Zi h0
 have HNE:=Za (show ¬tl t=[]by intro h;have:=tl_length t;rw[h]at this;simp at this;omega)
 by_cases h1:1<t.size
 ·by_cases hx:(tl t).take 2=[48,120]
  ·have hx':((t.extract 0 2).toList == [48,120])=true:=by rw[Zga,tl_to,hx];rfl
   have HE:=Za (show valueOf l=fin (vGo 16 0 ((tl t).drop 2))by rw[HT.out,valueStr,if_neg HNE.out,if_pos ⟨by rw[tl_length];exact h1,hx⟩])
   clear hx;obtain⟨q,hq⟩:∃q,t.extract 2 t.size=q:=⟨_,rfl⟩
   have HQ:=Za (show tl q=(tl t).drop 2 by rw[←hq,tl_from])
   have hqs:q.size≤400000:=by rw[←hq];simp;omega
   rw[←HQ.out]at HE;go_wp2;clear hq
   go_loop [6,7] (fun x i=>∃(k:Nat) (n:Int),k≤q.size∧i=.int .i64 k∧x=.int .i64 n∧0≤n∧n≤1099511627776∧valueOf l=fin (vGo 16 n ((tl q).drop k))) (fun _ i=>q.size-(intOf i).toNat)
   case atStart=>exact⟨0,0,Xa _,rfl,rfl,by omega,by omega,HE.out⟩
   case round=>
    clear HE;obtain⟨k,n,hk,rfl,rfl,hn0,hn1,hE⟩:=hrel;have HE:=Za hE;clear hE
    by_cases hlt:k<q.size
    ·have hbk:=bb q[k]
     obtain⟨hd0,hd1⟩:=ZdH (q[k].toNat:Int);have HS:=Za (ZhQ 16 n q k hlt)
     by_cases hbad:digit (q[k].toNat:Int)<0∨16≤digit (q[k].toNat:Int)
     ·have HF:=Za (show valueOf l=(0,false)by rw[HE.out,HS.out,if_pos hbad];rfl)
      rcases hbad with hbad|hbad
      ·go_wp2_with (go_at_call 286;refine(ZC _ _).mono ?_;rintro e w' ⟨rfl,rfl⟩)
       go_ret2
       exact⟨by rw[HF.out];rfl,HN.out⟩
      ·go_wp2_with (go_at_call 286;refine(ZC _ _).mono ?_;rintro e w' ⟨rfl,rfl⟩)
       all_goals go_ret2
       all_goals exact⟨by rw[HF.out];rfl,HN.out⟩
     ·have hg0:0≤digit (q[k].toNat:Int):=by omega
      have hg1:digit (q[k].toNat:Int)<16:=by omega
      have HF:=Za (show valueOf l=fin (vGo 16 (Zeu 16 n (digit (q[k].toNat:Int))) ((tl q).drop (k+1)))by rw[HE.out,HS.out,if_neg hbad])
      clear hbad
      by_cases hbig:1099511627776<n*16+digit (q[k].toNat:Int)
      ·have HG:=Za (HF.out.trans (by unfold Zeu;rw[if_pos hbig]))
       go_wp2_with (go_at_call 286;refine(ZC _ _).mono ?_;rintro e w' ⟨rfl,rfl⟩)
       go_round
       case rel=>exact⟨k+1,1099511627776,by omega,by go_num,rfl,by omega,by omega,HG.out⟩
       case measure=>simp[intOf];omega
      ·have HG:=Za (HF.out.trans (by unfold Zeu;rw[if_neg hbig]))
       go_wp2_with (go_at_call 286;refine(ZC _ _).mono ?_;rintro e w' ⟨rfl,rfl⟩)
       go_round
       case rel=>exact⟨k+1,n*16+digit (q[k].toNat:Int),by omega,by go_num,rfl,by omega,by omega,HG.out⟩
       case measure=>simp[intOf];omega
    ·have HF:=Za (show valueOf l=(n,true)by rw[HE.out,Zu q k (by omega)];rfl)
     go_wp2;go_ret2
     exact⟨by rw[HF.out];rfl,HN.out⟩
  have hx':((t.extract 0 2).toList == [48,120])=false:=by rw[Zga,tl_to];simpa using hx
  have hb0:=bb t[0]
  by_cases hz:t[0]=48
  ·have hz':((t[0].toNat:Int)==48)=true:=by rw[hz];rfl
   have HE:=Za (show valueOf l=fin (vGo 8 0 ((tl t).drop 1))by rw[HT.out,valueStr,if_neg HNE.out,if_neg (fun h=>hx h.2),if_pos ⟨by rw[tl_length];exact h1,by rw[Ze6 t (by omega),hz]⟩])
   clear hx hz;obtain⟨q,hq⟩:∃q,t.extract 1 t.size=q:=⟨_,rfl⟩
   have HQ:=Za (show tl q=(tl t).drop 1 by rw[←hq,tl_from])
   have hqs:q.size≤400000:=by rw[←hq];simp;omega
   rw[←HQ.out]at HE;go_wp2;clear hq
   go_loop [6,7] (fun x i=>∃(k:Nat) (n:Int),k≤q.size∧i=.int .i64 k∧x=.int .i64 n∧0≤n∧n≤1099511627776∧valueOf l=fin (vGo 8 n ((tl q).drop k))) (fun _ i=>q.size-(intOf i).toNat)
   case atStart=>exact⟨0,0,Xa _,rfl,rfl,by omega,by omega,HE.out⟩
   case round=>
    clear HE;obtain⟨k,n,hk,rfl,rfl,hn0,hn1,hE⟩:=hrel;have HE:=Za hE;clear hE
    by_cases hlt:k<q.size
    ·have hbk:=bb q[k]
     obtain⟨hd0,hd1⟩:=ZdH (q[k].toNat:Int);have HS:=Za (ZhQ 8 n q k hlt)
     by_cases hbad:digit (q[k].toNat:Int)<0∨8≤digit (q[k].toNat:Int)
     ·have HF:=Za (show valueOf l=(0,false)by rw[HE.out,HS.out,if_pos hbad];rfl)
      rcases hbad with hbad|hbad
      ·go_wp2_with (go_at_call 286;refine(ZC _ _).mono ?_;rintro e w' ⟨rfl,rfl⟩)
       go_ret2
       exact⟨by rw[HF.out];rfl,HN.out⟩
      ·go_wp2_with (go_at_call 286;refine(ZC _ _).mono ?_;rintro e w' ⟨rfl,rfl⟩)
       all_goals go_ret2
       all_goals exact⟨by rw[HF.out];rfl,HN.out⟩
     ·have hg0:0≤digit (q[k].toNat:Int):=by omega
      have hg1:digit (q[k].toNat:Int)<8:=by omega
      have HF:=Za (show valueOf l=fin (vGo 8 (Zeu 8 n (digit (q[k].toNat:Int))) ((tl q).drop (k+1)))by rw[HE.out,HS.out,if_neg hbad])
      clear hbad
      by_cases hbig:1099511627776<n*8+digit (q[k].toNat:Int)
      ·have HG:=Za (HF.out.trans (by unfold Zeu;rw[if_pos hbig]))
       go_wp2_with (go_at_call 286;refine(ZC _ _).mono ?_;rintro e w' ⟨rfl,rfl⟩)
       go_round
       case rel=>exact⟨k+1,1099511627776,by omega,by go_num,rfl,by omega,by omega,HG.out⟩
       case measure=>simp[intOf];omega
      ·have HG:=Za (HF.out.trans (by unfold Zeu;rw[if_neg hbig]))
       go_wp2_with (go_at_call 286;refine(ZC _ _).mono ?_;rintro e w' ⟨rfl,rfl⟩)
       go_round
       case rel=>exact⟨k+1,n*8+digit (q[k].toNat:Int),by omega,by go_num,rfl,by omega,by omega,HG.out⟩
       case measure=>simp[intOf];omega
    ·have HF:=Za (show valueOf l=(n,true)by rw[HE.out,Zu q k (by omega)];rfl)
     go_wp2;go_ret2
     exact⟨by rw[HF.out];rfl,HN.out⟩
  have hz':((t[0].toNat:Int)==48)=false:=by
   simp only[beq_eq_false_iff_ne,ne_eq];intro h
   exact hz (UInt8.toNat_inj.1 (by show t[0].toNat=48;omega))
  have HE:=Za (show valueOf l=fin (vGo 10 0 (tl t))by rw[HT.out,valueStr,if_neg HNE.out,if_neg (fun h=>hx h.2),if_neg (fun h=>hz (by have:=h.2;rw[Ze6 t (by omega)]at this;simpa using this))])
  clear hx hz;go_wp2
  go_loop [6,7] (fun x i=>∃(k:Nat) (n:Int),k≤t.size∧i=.int .i64 k∧x=.int .i64 n∧0≤n∧n≤1099511627776∧valueOf l=fin (vGo 10 n ((tl t).drop k))) (fun _ i=>t.size-(intOf i).toNat)
  case atStart=>exact⟨0,0,Xa _,rfl,rfl,by omega,by omega,HE.out⟩
  case round=>
   clear HE;obtain⟨k,n,hk,rfl,rfl,hn0,hn1,hE⟩:=hrel;have HE:=Za hE;clear hE
   by_cases hlt:k<t.size
   ·have hbk:=bb t[k]
    obtain⟨hd0,hd1⟩:=ZdH (t[k].toNat:Int);have HS:=Za (ZhQ 10 n t k hlt)
    by_cases hbad:digit (t[k].toNat:Int)<0∨10≤digit (t[k].toNat:Int)
    ·have HF:=Za (show valueOf l=(0,false)by rw[HE.out,HS.out,if_pos hbad];rfl)
     rcases hbad with hbad|hbad
     ·go_wp2_with (go_at_call 286;refine(ZC _ _).mono ?_;rintro e w' ⟨rfl,rfl⟩)
      go_ret2
      exact⟨by rw[HF.out];rfl,HN.out⟩
     ·go_wp2_with (go_at_call 286;refine(ZC _ _).mono ?_;rintro e w' ⟨rfl,rfl⟩)
      all_goals go_ret2
      all_goals exact⟨by rw[HF.out];rfl,HN.out⟩
    ·have hg0:0≤digit (t[k].toNat:Int):=by omega
     have hg1:digit (t[k].toNat:Int)<10:=by omega
     have HF:=Za (show valueOf l=fin (vGo 10 (Zeu 10 n (digit (t[k].toNat:Int))) ((tl t).drop (k+1)))by rw[HE.out,HS.out,if_neg hbad])
     clear hbad
     by_cases hbig:1099511627776<n*10+digit (t[k].toNat:Int)
     ·have HG:=Za (HF.out.trans (by unfold Zeu;rw[if_pos hbig]))
      go_wp2_with (go_at_call 286;refine(ZC _ _).mono ?_;rintro e w' ⟨rfl,rfl⟩)
      go_round
      case rel=>exact⟨k+1,1099511627776,by omega,by go_num,rfl,by omega,by omega,HG.out⟩
      case measure=>simp[intOf];omega
     ·have HG:=Za (HF.out.trans (by unfold Zeu;rw[if_neg hbig]))
      go_wp2_with (go_at_call 286;refine(ZC _ _).mono ?_;rintro e w' ⟨rfl,rfl⟩)
      go_round
      case rel=>exact⟨k+1,n*10+digit (t[k].toNat:Int),by omega,by go_num,rfl,by omega,by omega,HG.out⟩
      case measure=>simp[intOf];omega
   ·have HF:=Za (show valueOf l=(n,true)by rw[HE.out,Zu t k (by omega)];rfl)
    go_wp2;go_ret2
    exact⟨by rw[HF.out];rfl,HN.out⟩
 ·have HE:=Za (show valueOf l=fin (vGo 10 0 (tl t))by rw[HT.out,valueStr,if_neg HNE.out,if_neg (fun h=>h1 (by have:=h.1;rw[tl_length]at this;exact this)),if_neg (fun h=>h1 (by have:=h.1;rw[tl_length]at this;exact this))])
  go_wp2
  go_loop [6,7] (fun x i=>∃(k:Nat) (n:Int),k≤t.size∧i=.int .i64 k∧x=.int .i64 n∧0≤n∧n≤1099511627776∧valueOf l=fin (vGo 10 n ((tl t).drop k))) (fun _ i=>t.size-(intOf i).toNat)
  case atStart=>exact⟨0,0,Xa _,rfl,rfl,by omega,by omega,HE.out⟩
  case round=>
   clear HE;obtain⟨k,n,hk,rfl,rfl,hn0,hn1,hE⟩:=hrel;have HE:=Za hE;clear hE
   by_cases hlt:k<t.size
   ·have hbk:=bb t[k]
    obtain⟨hd0,hd1⟩:=ZdH (t[k].toNat:Int);have HS:=Za (ZhQ 10 n t k hlt)
    by_cases hbad:digit (t[k].toNat:Int)<0∨10≤digit (t[k].toNat:Int)
    ·have HF:=Za (show valueOf l=(0,false)by rw[HE.out,HS.out,if_pos hbad];rfl)
     rcases hbad with hbad|hbad
     ·go_wp2_with (go_at_call 286;refine(ZC _ _).mono ?_;rintro e w' ⟨rfl,rfl⟩)
      go_ret2
      exact⟨by rw[HF.out];rfl,HN.out⟩
     ·go_wp2_with (go_at_call 286;refine(ZC _ _).mono ?_;rintro e w' ⟨rfl,rfl⟩)
      all_goals go_ret2
      all_goals exact⟨by rw[HF.out];rfl,HN.out⟩
    ·have hg0:0≤digit (t[k].toNat:Int):=by omega
     have hg1:digit (t[k].toNat:Int)<10:=by omega
     have HF:=Za (show valueOf l=fin (vGo 10 (Zeu 10 n (digit (t[k].toNat:Int))) ((tl t).drop (k+1)))by rw[HE.out,HS.out,if_neg hbad])
     clear hbad
     by_cases hbig:1099511627776<n*10+digit (t[k].toNat:Int)
     ·have HG:=Za (HF.out.trans (by unfold Zeu;rw[if_pos hbig]))
      go_wp2_with (go_at_call 286;refine(ZC _ _).mono ?_;rintro e w' ⟨rfl,rfl⟩)
      go_round
      case rel=>exact⟨k+1,1099511627776,by omega,by go_num,rfl,by omega,by omega,HG.out⟩
      case measure=>simp[intOf];omega
     ·have HG:=Za (HF.out.trans (by unfold Zeu;rw[if_neg hbig]))
      go_wp2_with (go_at_call 286;refine(ZC _ _).mono ?_;rintro e w' ⟨rfl,rfl⟩)
      go_round
      case rel=>exact⟨k+1,n*10+digit (t[k].toNat:Int),by omega,by go_num,rfl,by omega,by omega,HG.out⟩
      case measure=>simp[intOf];omega
   ·have HF:=Za (show valueOf l=(n,true)by rw[HE.out,Zu t k (by omega)];rfl)
    go_wp2;go_ret2
    exact⟨by rw[HF.out];rfl,HN.out⟩
end Go.Proofs.YtchkhibgbnhjpabGreatDoor
