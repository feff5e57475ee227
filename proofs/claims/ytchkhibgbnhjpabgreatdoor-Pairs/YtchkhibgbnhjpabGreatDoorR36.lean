import Derived.Test.YtchkhibgbnhjpabGreatDoorR31
open Bool renaming false_eq_true→Xe
open List renaming getElem?_eq_getElem→Xa,length_map→Xb,getD_eq_getElem?_getD→Xc,getElem?_map→Xd,append_nil→Xf,take_succ_eq_append_getElem→Xg,take_of_length_le→Xi,map_append→Xk,mem_map→Xl
open Nat renaming add_zero→Xh,le_trans→Xj,zero_le→Xm
namespace Go.Proofs.YtchkhibgbnhjpabGreatDoor
open Go.RowKit
set_option maxHeartbeats 8000000
set_option maxRecDepth 8000
theorem ZrG(s:BA)(w:World)(hs:s.size≤20000)(hok:(schemeOf (cut (ZdF (tl s)) [35]).1).2.2=false):Calls Tryz.prog 149 #[.string s,.pointer none] w fun e w'=>Zn8 e w w' (Zaj (tl s) (none)):=by
 have HOK:=Za hok;clear hok
 go_enter Tryz.func149,Tryz.ntmps149
 go_wp2_with fail
 refine(Za5 s _ (by omega)).mono ?_
 rintro e w1 ⟨v1,rfl,h1,hn1⟩;have H1:=Za h1;have HN1:=Za hn1;clear h1 hn1;go_wp2_with fail
 refine(Zh2 _ (Zk (tl s)) _ H1.out).mono ?_
 rintro e w1' ⟨v2,rfl,h2,rfl⟩;have H2:=Za h2;have hpl:=ZaO (tl s);rw[tl_length]at hpl;have htl:=ZfY (Zk (tl s));clear h2 H1;go_wp2_with fail
 refine(Zo0 _ (trimmed (Zk (tl s))) _ H2.out (by omega)).mono ?_
 rintro e w2 ⟨v3,rfl,h3,hn2⟩;have H3:=Za (show IntsAt w2 v3 (ZdF (tl s))from h3);have HN2:=Za (HN1.out.then hn2)
 have hll:(ZdF (tl s)).length≤20000:=Xj (ZmC _) (by rw[tl_length];exact hs)
 have HLP:=Za (ZpQ (tl s));clear h3 hn2 H2 HN1 hpl htl;have HPD:Hid (Zaj (tl s) (none)=Zkc (cut (ZdF (tl s)) [35]).1 (cut (ZdF (tl s)) [35]).2.1 (cut (ZdF (tl s)) [35]).2.2 (none)):=Za rfl;generalize ZdF (tl s)=L at *;go_wp2_with fail
 refine(Zdx _ L ⟨#[35]⟩ _ (Ze (by decide)) H3.out).mono ?_
 rintro e w3 ⟨va,vf,rfl,ha,hf,hn3⟩;rw[show tl (⟨#[35]⟩:BA)=[35]from rfl]at *
 have HPA:=Za (fun c (h:c∈(cut L [35]).1)=>HLP.out c (ZR (Or.inl h)))
 have HPF:=Za (fun c (h:c∈(cut L [35]).2.1)=>HLP.out c (ZR (Or.inr h)))
 have hcl:=(Zce L [35]).1;generalize cut L [35]=cc at *;obtain⟨a,frag,hf⟩:=cc;simp only at *;have HA:=Za ha;have HF:=Za hf;have HN3:=Za (HN2.out.then hn3);clear ha hf hn3 H3 HN2 HLP;have hsl:=Zhw a
 have hsc:=Zhx a (by omega)
 have HPR:=Za (fun c (h:c∈(schemeOf a).2.1)=>HPA.out c (ZeV h))
 go_wp2_with fail
 refine(Zhm _ a _ HA.out (by omega) HPA.out).mono ?_
 rintro e w4 ⟨sc,vr,rfl,hsce,hr,hn4⟩;have HSC:=Za hsce;have HRT:=Za hr;have HN4:=Za (HN3.out.then hn4);have HF4:=Za (HF.out.on hn4);have HA4:=Za (HA.out.on hn4)
 have hscs:sc.size≤1000000:=by rw[←tl_length,hsce];exact hsc
 clear hsce hr hn4 HN3 HF HA hsc;rw[HOK.out]
 have HD:=Za (HPD.out.trans (show Zkc a frag hf none=(zeroR,2)from if_neg (by rw[HOK.out];decide)))
 clear HPD HOK HA4 HF4 HRT HPR HPA HPF;go_wp2;go_ret2
 exact Or.inl ⟨by rw[HD.out];decide,by rw[HD.out];rfl,HN4.out⟩
theorem Zkt(s:BA)(bv:Value)(ob:Option RU)(w:World)(hs:s.size≤20000)(hb:BaseW w bv ob):Calls Tryz.prog 149 #[.string s,bv] w fun e w'=>Zn8 e w w' (Zaj (tl s) ob):=by
 cases hok:(schemeOf (cut (ZdF (tl s)) [35]).1).2.2
 ·obtain⟨rfl,rfl⟩:=hb.resolve_right id
  exact ZrG s w hs hok
 ·exact ZtH s bv ob w hs hb hok
def ZcD(l:List Int)(k:Nat):List Int:=(l.take k).map ZcR++l.drop k
theorem ZrH(l:LI)(k:Nat):(ZcD l k).length=l.length:=by simp[ZcD];omega
theorem Zox(l:LI):ZcD l 0=l:=by simp[ZcD]
theorem ZrI(l:LI)(k:Nat)(h:l.length≤k):ZcD l k=l.map ZcR:=by simp[ZcD,Xi h,List.drop_of_length_le h]
theorem Zku(l:LI)(k:Nat)(h:k<l.length):(ZcD l k)[k]?=some l[k]:=by
 unfold ZcD
 rw[List.getElem?_append_right (by simp;omega)]
 simp only[Xb,List.length_take,List.getElem?_drop]
 rw[show k+(k-min k l.length)=k by omega,Xa h]
theorem Zi6(l:LI)(k:Nat)(h:k<l.length):ZcD l (k+1)=(ZcD l k).set k (ZcR l[k]):=by
 have hlen:((l.take k).map ZcR).length=k:=by simp;omega
 unfold ZcD
 rw[Xg h,List.drop_eq_getElem_cons h,List.set_append,if_neg (by omega),hlen,Nat.sub_self,List.set_cons_zero,Xk,List.append_assoc]
 rfl
theorem Zoy(l:LI)(k:Nat)(h:k<l.length)(hc:ZcR l[k]=l[k]):ZcD l (k+1)=ZcD l k:=by
 rw[Zi6 l k h,hc];have h1:=Zku l k h
 have hk:k<(ZcD l k).length:=by rw[ZrH];exact h
 rw[Xa hk]at h1;rw[←Option.some.inj h1,List.set_getElem_self]
theorem Zux{c:Int}(h:Pt c):Pt (ZcR c):=by
 unfold ZcR
 split
 ·exact⟨by decide,by decide⟩
 ·exact h
theorem ZdY{s:BA}{l:LB}{n:Nat}(h:tl s=l)(hn:l.length≤n):s.size≤n:=by rw[←tl_length,h];exact hn
theorem ZrJ{w:World}{base:Nat}{v:Value}{l:LI}(h:OwnI w base v l):∃ao cp,v=.slice ao l.length cp:=by obtain⟨ao,cp,h,-⟩:=h.ints;exact⟨ao,cp,h⟩
theorem Zkv(v:Value)(l:LI)(w:World)(hv:IntsAt w v l)(hl:l.length≤100000)(hp:∀c∈l,Pt c):Calls Tryz.prog 234 #[v] w fun e w'=>∃r:BA,e=.returned (.string r)∧tl r=ZiY l∧Nx w w':=by
 have HP:=Za hp
 have HPM:=Za (show ∀c∈l.map ZcR,Pt c from fun c hc=>by obtain⟨x,hx,rfl⟩:=Xl.1 hc;exact Zux (hp x hx))
 have key:∀(w2:World) (v':Value),OwnI w2 w.heap.size v' l→Nx w w2→True:=fun _ _ _ _=>trivial
 clear key hp
 have hcase:(v=.slice none 0 0∧l=[])∨∃b off cap,v=.slice (some ⟨b,off,none⟩) l.length cap∧RowAt 3 (Value.int .i64) w b off l:=by
  obtain⟨ao,cap,rfl,hlc,hcap,hnone,hsome⟩:=hv
  cases ao with
  | none=>obtain⟨rfl,rfl⟩:=hnone rfl;exact Or.inl ⟨rfl,rfl⟩
  | some a=>obtain⟨b,off,rfl,hr⟩:=hsome a rfl;exact Or.inr ⟨b,off,cap,rfl,hr⟩
 clear hv;obtain⟨i0,hi0,-,-,-⟩:=info_parts Zex;rcases hcase with⟨rfl,rfl⟩|⟨b,off,cap,rfl,hrow⟩
 all_goals go_enter Tryz.func234,Tryz.ntmps234
 ·go_upto_region 2 with(at_builtin;go_must (refine wpList_append_own_none rfl _ _ 124 rfl w.heap.size 3 i0 1 Tryz.underlying124 hi0 (.slice none 0 0) 0 [] rfl (World.ownsRow_nil _ _ _ _) rfl ?_))
  go_wp2
  go_loop [4] (fun i=>i=.int .i64 0) (fun _=>0)
  case atStart=>exact rfl
  case round=>
   subst hrel;go_wp2_with fail
   refine(ZbC (.slice none 0 0) [] _ (SlAt.nil _) (by decide) (fun c hc=>by cases hc)).mono ?_
   rintro e w1 ⟨r1,rfl,hr1,hn1⟩;have HR1:=Za hr1;have HN1:=Za hn1
   have hs1:r1.size≤0:=ZdY hr1 (by decide)
   clear hr1 hn1;go_wp2_with fail
   refine(ZfG 0 r1 _ hs1 (by decide)).mono ?_
   rintro e w2 ⟨r2,rfl,hr2,hn2⟩;have HR2:=Za hr2;have HN2:=Za (HN1.out.then hn2)
   have hs2:r2.size≤0:=ZdY hr2 (Xj (Zbi _) (by rw[HR1.out];decide))
   clear hr2 hn2;go_wp2_with fail
   refine(Za5 r2 _ (by omega)).mono ?_
   rintro e w3 ⟨v3,rfl,h3,hn3⟩;have H3:=Za h3;have HN3:=Za (HN2.out.then hn3);have hpl:=ZaO (tl r2);rw[tl_length]at hpl;clear h3 hn3;go_wp2_with fail
   refine(ZbC v3 _ _ H3.out (by omega) (fun c hc=>Zct _ c hc)).mono ?_
   rintro e w4 ⟨r4,rfl,hr4,hn4⟩;have HR4:=Za hr4;have HN4:=Za (HN3.out.then hn4);clear hr4 hn4;go_wp2;go_ret
   exact⟨r4,rfl,by rw[HR4.out,HR2.out,HR1.out];rfl,HN4.out⟩
 ·have HARM:=Za (show ∀j u,(l.map (Value.int .i64))[j]?=some u→w.cell? ((⟨b,off,none⟩:Addr).add j)=some u from fun j u hu=>by
   rw[Addr.add_lit]
   have hj:j<l.length:=by have:=(List.getElem?_eq_some_iff.1 hu).1;simpa using this
   rw[hrow.cell hj]
   simp[Xa hj]at hu
   rw[←hu])
  have HLM:=Za (show(l.map (Value.int .i64)).length=l.length by rw[Xb])
  have HONE:=Za (show ∀u∈l.map (Value.int .i64),u.oneCell'=true by intro u hu;obtain⟨x,_,rfl⟩:=Xl.1 hu;rfl)
  clear hrow
  go_upto_region 2 with(at_builtin;go_must (refine Zdy w 124 3 (.int .i64 0) 8 Tryz.underlying124 Zex rfl rfl _ _ rfl w.heap.size (.slice none 0 0) 0 [] rfl (World.ownsRow_nil _ _ _ _) ⟨b,off,none⟩ l.length cap (l.map (Value.int .i64)) rfl HLM.out HARM.out HONE.out (by omega) (by decide) (Nat.le_refl _) ?_;intro v' w2 ho2 hb2 _;rw[Nat.zero_add,List.nil_append]at ho2;have HO:=Za ho2;have HN0:=Za (show Nx w w2 from hb2);clear ho2 hb2;obtain⟨ao,cp,rfl⟩:=ZrJ HO.out))
  go_wp2
  go_loopw [4] (fun i wr=>∃k:Nat,k≤l.length∧i=.int .i64 k∧wr.ownsRow w.heap.size 3 1 (.slice ao l.length cp) l.length ((ZcD l k).map (Value.int .i64))∧Nx w wr) (fun i _=>l.length-(intOf i).toNat)
  case atStart=>exact⟨0,Xm _,rfl,by rw[Zox];exact HO.out,HN0.out⟩
  case round=>
   obtain⟨k,hk,rfl,hown,hnx⟩:=hrel;have HN:=Za hnx;clear hnx HO HN0
   by_cases hlt:k<l.length
   ·obtain⟨g,rfl,hg⟩:∃g,ao=some ⟨g,0,none⟩∧w.heap.size≤g:=by
     rcases hown.2 with⟨h1,h2⟩|⟨g,cap',cur,h1,h2,-⟩
     ·omega
     ·simp only[Value.slice.injEq]at h1;exact⟨g,h1.1,h2⟩
    have hc:=hown.cellAt k (by omega)
    rw[Xd,Zku l k hlt]at hc;simp only[Option.map]at hc;have hf:=hown.frozenAt k;have HST:=Za (hown.stored k (.int .i64 32)).1;have HOW:=Za hown;clear hown
    by_cases hit:l[k]=43
    ·have hit':(l[k]==43)=true:=by rw[hit];rfl
     have HE:=Za (show(ZcD l (k+1)).map (Value.int .i64)=((ZcD l k).map (Value.int .i64)).set k (.int .i64 32)by rw[Zi6 l k hlt,List.map_set];unfold ZcR;rw[if_pos hit])
     clear hit;go_wp2
     go_roundw
     case rel=>exact⟨k+1,by omega,by go_num,by rw[HE.out];exact HST.out,HN.out.setCell hg _⟩
     case measure=>simp[intOf];omega
    ·have hit':(l[k]==43)=false:=beq_eq_false_iff_ne.2 hit
     have HE:=Za (Zoy l k hlt (by unfold ZcR;rw[if_neg hit]))
     clear hit HST;go_wp2
     go_roundw
     case rel=>exact⟨k+1,by omega,by go_num,by rw[HE.out];exact HOW.out,HN.out⟩
     case measure=>simp[intOf];omega
   ·rw[ZrI l k (by omega)]at hown
    have HI:=Za (show IntsAt _ (.slice ao l.length cp) (l.map ZcR)from by
     have h:=ZQ (f:=Value.int .i64) (l:=l.map ZcR) (by rw[Xb];exact hown)
     exact h)
    have hll:(l.map ZcR).length=l.length:=Xb ..;have hbl:=Zbh (l.map ZcR);clear hown;go_wp2_with fail
    refine(ZbC _ (l.map ZcR) _ HI.out (by omega) HPM.out).mono ?_
    rintro e w1 ⟨r1,rfl,hr1,hn1⟩;have HR1:=Za hr1;have HN1:=Za (HN.out.then hn1)
    have hs1:r1.size≤400000:=ZdY hr1 (by omega)
    clear hr1 hn1;go_wp2_with fail
    refine(ZfG 400000 r1 _ hs1 (by decide)).mono ?_
    rintro e w2 ⟨r2,rfl,hr2,hn2⟩;have HR2:=Za hr2;have HN2:=Za (HN1.out.then hn2)
    have hs2:r2.size≤400000:=ZdY hr2 (Xj (Zbi _) (by rw[tl_length];exact hs1))
    clear hr2 hn2;go_wp2_with fail
    refine(Za5 r2 _ (by omega)).mono ?_
    rintro e w3 ⟨v3,rfl,h3,hn3⟩;have H3:=Za h3;have HN3:=Za (HN2.out.then hn3);have hpl:=ZaO (tl r2);rw[tl_length]at hpl;clear h3 hn3;go_wp2_with fail
    refine(ZbC v3 _ _ H3.out (by omega) (fun c hc=>Zct _ c hc)).mono ?_
    rintro e w4 ⟨r4,rfl,hr4,hn4⟩;have HR4:=Za hr4;have HN4:=Za (HN3.out.then hn4);clear hr4 hn4;go_wp2;go_ret
    exact⟨r4,rfl,by rw[HR4.out,HR2.out,HR1.out];rfl,HN4.out⟩
structure RL (R:RR):Prop where
 user:R.user.size≤300000
 pass:R.pass.size≤300000
 htx:R.htx.size≤300000
 port:R.port≤65535
 bl:R.bl.size≤300000
 q:R.q.size≤300000
 fr:R.fr.size≤300000
theorem ZbS(rb:Nat)(R:RR)(u:RU)(bs:LA)(w:World)(h:RB w rb R)(hr:RIs w R u bs)(hl:R.htx.size≤300000)(hp:R.port≤65535):Calls Tryz.prog 115 #[.pointer (some ⟨rb,0,none⟩)] w fun e w'=>∃t:BA,e=.returned (.string t)∧tl t=Zdt u∧t.size≤400000∧Nx w w':=by
 have HD:=Za (show Zdt u=if 0≤R.port then tl R.htx++[58]++dec R.port.toNat else tl R.htx by rw[←hr.eq];rfl)
 obtain⟨-,-,-,-,c4,c5,-⟩:=h.cells;clear h hr
 by_cases h0:0≤R.port
 ·have HE:=Za (HD.out.trans (if_pos h0))
  clear HD;have hdl:=ZbX R.port.toNat
  go_enter Tryz.func115,Tryz.ntmps115
  go_wp2_with fail
  refine(ZbY 65535 R.port _ h0 hp (by decide)).mono ?_
  rintro e w1 ⟨r,rfl,hrr,hn⟩;have HR:=Za hrr
  have hrs:r.size≤65536:=by rw[←tl_length,hrr];omega
  have HN:=Za hn;clear hrr hn c4 c5;go_wp2;go_ret
  refine⟨_,rfl,?_,?_,HN.out⟩
  ·rw[HE.out,Zd,Zd,HR.out];rfl
  ·rw[Zh,Zh];show R.htx.size+1+r.size≤400000;omega
 ·have HE:=Za (HD.out.trans (if_neg h0))
  clear HD
  go_enter Tryz.func115,Tryz.ntmps115
  go_wp2;go_ret
  exact⟨_,rfl,HE.out.symm,by omega,Nx.rfl⟩
theorem ZdZ(rb:Nat)(R:RR)(u:RU)(bs:LA)(w:World)(h:RB w rb R)(hr:RIs w R u bs)(hl:R.bl.size≤300000):Calls Tryz.prog 116 #[.pointer (some ⟨rb,0,none⟩)] w fun e w'=>∃t:BA,e=.returned (.string t)∧tl t=Zdi u∧t.size≤200000000000∧Nx w w':=by
 have HD:=Za (show Zdi u=tl R.bl++Zc6 (bs.map tl)by rw[←hr.eq];rfl)
 have hls:=hr.lsegs;have HLS:=Za hr.lseg;have hsg:=hr.seg';obtain⟨-,-,-,-,-,-,c6,-,c8,-⟩:=h.cells;clear h hr;rcases hsg with⟨h1,h2,h3,rfl⟩|⟨b,off,h1,h2,h3,h4,hrow⟩
 ·rw[h1,h2,h3]at c6
  go_enter Tryz.func116,Tryz.ntmps116
  go_wp2
  go_loop [3,4] (fun t i=>t=.string R.bl∧i=.int .i64 0) (fun _ _=>0)
  case atStart=>exact⟨rfl,rfl⟩
  case round=>
   obtain⟨rfl,rfl⟩:=hrel;go_wp2;go_ret
   exact⟨_,rfl,by rw[HD.out];simp[Zc6],by omega,Nx.rfl⟩
 ·rw[h1,h2]at c6
  unfold maxLen at h4
  go_enter Tryz.func116,Tryz.ntmps116
  go_wp2
  go_loop [3,4] (fun t i=>∃(k:Nat) (txt:BA),k≤bs.length∧t=.string txt∧i=.int .i64 k∧tl txt=tl R.bl++Zc6 ((bs.take k).map tl)∧txt.size≤300000+1000001*k) (fun _ i=>bs.length-(intOf i).toNat)
  case atStart=>exact⟨0,R.bl,Xm _,rfl,rfl,by simp[Zc6],by omega⟩
  case round=>
   obtain⟨k,txt,hk,rfl,rfl,hE,hsz⟩:=hrel;have HT:=Za hE;clear hE
   by_cases hlt:k<bs.length
   ·have hck:=hrow.cell hlt
    have hbz:=HLS.out _ (List.getElem_mem hlt)
    have HS:=Za (show(bs.take (k+1)).map tl=(bs.take k).map tl++[tl bs[k]]by rw[Xg hlt,Xk];rfl)
    generalize bs[k]=p at *;go_wp2
    go_round
    case rel=>exact⟨k+1,txt++(⟨#[47]⟩:BA)++p,by omega,rfl,by go_num,by rw[HS.out,joinSl_snoc,Zd,Zd,HT.out];simp[tl],by rw[Zh,Zh];show txt.size+1+p.size≤_;omega⟩
    case measure=>simp[intOf];omega
   ·have HF:=Za (show tl txt=Zdi u by rw[HT.out,HD.out,Xi (by omega)])
    have hz2:txt.size≤200000000000:=by
     have:1000001*k≤1000001*100000:=Nat.mul_le_mul_left _ (by omega)
     omega
    go_wp2;go_ret;exact⟨txt,rfl,HF.out,hz2,Nx.rfl⟩
theorem Zw6(rb:Nat)(R:RR)(u:RU)(bs:LA)(w:World)(h:RB w rb R)(hr:RIs w R u bs)(hl:RL R)(hu:R.user.size=0)(hp:R.pass.size=0):Calls Tryz.prog 113 #[.pointer (some ⟨rb,0,none⟩)] w fun e w'=>∃t:BA,e=.returned (.string t)∧tl t=ZhN u∧Nx w w':=by
 have HB:=Za h;have HR:=Za hr;have HL:=Za hl
 have HD:=Za (show ZhN u=tl R.sch++[58]++Zdc u++Zdi u++(if R.hq=true then [63]++tl R.q else [])++(if R.hf=true then [35]++tl R.fr else [])by rw[←hr.eq];rfl)
 have HW:=Za (show Zdc u=if R.his=true then [47,47]++ZfZ u++Zdt u else if 1<bs.length∧(bs.map tl).getD 0 []=[]then [47,46]else []by rw[←Xb (f:=tl),←hr.eq];rfl)
 have HU:=Za (show ZfZ u=if tl R.user=[]∧tl R.pass=[]then []else if tl R.pass=[]then tl R.user++[64]else tl R.user++[58]++tl R.pass++[64]by rw[←hr.eq];rfl)
 have ls:=hr.lsch;have l1:=hl.user;have l2:=hl.pass;have l3:=hl.htx;have l5:=hl.q;have l6:=hl.fr;have l7:=hl.bl;have l8:=hl.port;obtain⟨c0,c1,c2,c3,c4,c5,c6,c7,c8,c9,c10,c11,c12⟩:=h.cells;have hu':=Zm hu;have hp':=Zm hp;have HE1:=Za (Zoz hu);have HE2:=Za (Zoz hp);have hsg:=hr.seg';clear h hr hl hu hp
 go_enter Tryz.func113,Tryz.ntmps113
 go_upto_if 19 with fail
 go_cut [3]from 8 (fun s wx=>∃who:BA,s=.string who∧tl who=ZfZ u∧who.size≤600002∧Nx w wx∧RB wx rb R∧RIs wx R u bs)
 case first=>
  go_wp2
  go_meet
  case rel=>exact⟨⟨#[]⟩,rfl,by rw[HU.out,if_pos ⟨HE1.out,HE2.out⟩];rfl,by decide,Nx.rfl,HB.out,HR.out⟩
 case rest=>
  obtain⟨who,rfl,hwho,hwl,hnc,hbc,hrc⟩:=hcut;have HWH:=Za hwho;have HN:=Za hnc;have HB1:=Za hbc;have HR1:=Za hrc;clear hwho hnc hbc hrc c0 c1 c2 c3 c4 c5 c6 c7 c8 c9 c10 c11 c12 hu' hp' hsg;obtain⟨w1,hw1⟩:∃w1,w1=wc:=⟨_,rfl⟩;subst hw1;have hsg:=HR1.out.seg';obtain⟨c0,c1,c2,c3,c4,c5,c6,c7,c8,c9,c10,c11,c12⟩:=HB1.out.cells
  go_upto_if 45 with fail
  go_cut [4,5]from 8 (fun s _ wx=>∃t:BA,s=.string t∧tl t=Zdc u∧t.size≤2000000∧Nx w wx)
  case first=>
   generalize R.his=his at *
   cases his
   ·have HW1:=Za (HW.out.trans (if_neg (by decide)))
    clear HW;rcases hsg with⟨h1,h2,h3,rfl⟩|⟨b,off,h1,h2,h3,h4,hrow⟩
    ·rw[h1,h2,h3]at c6
     have HW2:=Za (HW1.out.trans (if_neg (by simp)))
     clear HW1;go_wp2
     go_meet
     case rel=>exact⟨⟨#[]⟩,rfl,HW2.out.symm,by decide,HN.out⟩
    ·rw[h1,h2]at c6
     unfold maxLen at h4
     by_cases hlt:1<bs.length
     ·have hck:=hrow.cell (show 0<bs.length by omega)
      rw[Xh]at hck
      have HG:=Za (show(bs.map tl).getD 0 []=tl bs[0]by rw[Xc,Xd,Xa (by omega)];rfl)
      generalize bs[0]=p at *
      by_cases hz:p.size=0
      ·have hz':=Zm hz
       have HW2:=Za (HW1.out.trans (if_pos ⟨hlt,by rw[HG.out];exact ZA hz⟩))
       clear HW1 hz;go_wp2
       go_meet
       case rel=>exact⟨⟨#[47,46]⟩,rfl,HW2.out.symm,by decide,HN.out⟩
      ·have hz':=Zi hz
       have HW2:=Za (HW1.out.trans (if_neg (fun g=>hz (by rw[HG.out]at g;rw[←tl_length,g.2];rfl))))
       clear HW1 hz;go_wp2
       go_meet
       case rel=>exact⟨⟨#[]⟩,rfl,HW2.out.symm,by decide,HN.out⟩
     ·have HW2:=Za (HW1.out.trans (if_neg (fun g=>hlt g.1)))
      clear HW1;go_wp2
      go_meet
      case rel=>exact⟨⟨#[]⟩,rfl,HW2.out.symm,by decide,HN.out⟩
   ·have HW1:=Za (HW.out.trans (if_pos rfl))
    clear HW hsg;go_wp2_with fail
    refine(ZbS rb R u bs _ HB1.out HR1.out l3 l8).mono ?_
    rintro e w2 ⟨t,rfl,ht,htl,hn⟩;have HT:=Za ht;have HN2:=Za (HN.out.then hn);clear ht hn;go_wp2
    go_meet
    case rel=>exact⟨(⟨#[47,47]⟩:BA)++who++t,rfl,by rw[HW1.out,Zd,Zd,HWH.out,HT.out];rfl,by rw[Zh,Zh];show 2+who.size+t.size≤_;omega,HN2.out⟩
  case rest=>
   obtain⟨wh,rfl,hwh,hwhl,hnc⟩:=hcut;have HWT:=Za hwh;have HN2:=Za hnc;clear hwh hnc hsg c0 c1 c2 c3 c4 c5 c6 c7 c8 c9 c10 c11 c12;obtain⟨w2,hw2⟩:∃w2,w2=wc:=⟨_,rfl⟩;subst hw2;go_wp2_with fail
   refine(ZdZ rb R u bs _ (HB.out.on HN2.out) (HR.out.on HN2.out) l7).mono ?_
   rintro e w3 ⟨pt,rfl,hpt,hptl,hn⟩;have HPT:=Za hpt;have HN3:=Za (HN2.out.then hn);clear hpt hn;obtain⟨c0,c1,c2,c3,c4,c5,c6,c7,c8,c9,c10,c11,c12⟩:=(HB.out.on HN3.out).cells;have HB':=HB;have HR':=HR;clear HB HR HB1 HR1;obtain⟨sch,user,pass,his,htx,port,po,pn,pc,op,bl,hq,q,hf,fr⟩:=R;simp only at *
   cases hq
   all_goals cases hf
   all_goals go_wp2
   all_goals go_ret
   all_goals exact⟨_,rfl,by rw[HD.out];simp only[if_true,Xe,if_false,Zd,HWT.out,HPT.out,Xf];simp[tl],HN3.out⟩
theorem Zw7(rb:Nat)(R:RR)(u:RU)(bs:LA)(w:World)(h:RB w rb R)(hr:RIs w R u bs)(hl:RL R)(hu:R.user.size=0)(hp:¬R.pass.size=0):Calls Tryz.prog 113 #[.pointer (some ⟨rb,0,none⟩)] w fun e w'=>∃t:BA,e=.returned (.string t)∧tl t=ZhN u∧Nx w w':=by
 have HB:=Za h;have HR:=Za hr;have HL:=Za hl
 have HD:=Za (show ZhN u=tl R.sch++[58]++Zdc u++Zdi u++(if R.hq=true then [63]++tl R.q else [])++(if R.hf=true then [35]++tl R.fr else [])by rw[←hr.eq];rfl)
 have HW:=Za (show Zdc u=if R.his=true then [47,47]++ZfZ u++Zdt u else if 1<bs.length∧(bs.map tl).getD 0 []=[]then [47,46]else []by rw[←Xb (f:=tl),←hr.eq];rfl)
 have HU:=Za (show ZfZ u=if tl R.user=[]∧tl R.pass=[]then []else if tl R.pass=[]then tl R.user++[64]else tl R.user++[58]++tl R.pass++[64]by rw[←hr.eq];rfl)
 have ls:=hr.lsch;have l1:=hl.user;have l2:=hl.pass;have l3:=hl.htx;have l5:=hl.q;have l6:=hl.fr;have l7:=hl.bl;have l8:=hl.port;obtain⟨c0,c1,c2,c3,c4,c5,c6,c7,c8,c9,c10,c11,c12⟩:=h.cells;have hu':=Zm hu;have hp':=Zi hp;have HE1:=Za (Zoz hu);have HE2:=Za (Zdg hp);have hsg:=hr.seg';clear h hr hl hu hp
 go_enter Tryz.func113,Tryz.ntmps113
 go_upto_if 19 with fail
 go_cut [3]from 8 (fun s wx=>∃who:BA,s=.string who∧tl who=ZfZ u∧who.size≤600002∧Nx w wx∧RB wx rb R∧RIs wx R u bs)
 case first=>
  go_upto_region 5 with fail
  all_goals try exact absurd (by assumption:(!R.pass.toList.isEmpty)=false) (by rw[hp'];decide)
  go_region
  go_wp2
  go_meet
  case rel=>exact⟨R.user++(⟨#[58]⟩:BA)++R.pass++(⟨#[64]⟩:BA),rfl,by rw[HU.out,if_neg (fun g=>HE2.out g.2),if_neg HE2.out,Zd,Zd,Zd];rfl,by rw[Zh,Zh,Zh];show R.user.size+1+R.pass.size+1≤_;omega,Nx.rfl.drew,HB.out.on Nx.rfl.drew,HR.out.on Nx.rfl.drew⟩
 case rest=>
  obtain⟨who,rfl,hwho,hwl,hnc,hbc,hrc⟩:=hcut;have HWH:=Za hwho;have HN:=Za hnc;have HB1:=Za hbc;have HR1:=Za hrc;clear hwho hnc hbc hrc c0 c1 c2 c3 c4 c5 c6 c7 c8 c9 c10 c11 c12 hu' hp' hsg;obtain⟨w1,hw1⟩:∃w1,w1=wc:=⟨_,rfl⟩;subst hw1;have hsg:=HR1.out.seg';obtain⟨c0,c1,c2,c3,c4,c5,c6,c7,c8,c9,c10,c11,c12⟩:=HB1.out.cells
  go_upto_if 45 with fail
  go_cut [4,5]from 8 (fun s _ wx=>∃t:BA,s=.string t∧tl t=Zdc u∧t.size≤2000000∧Nx w wx)
  case first=>
   generalize R.his=his at *
   cases his
   ·have HW1:=Za (HW.out.trans (if_neg (by decide)))
    clear HW;rcases hsg with⟨h1,h2,h3,rfl⟩|⟨b,off,h1,h2,h3,h4,hrow⟩
    ·rw[h1,h2,h3]at c6
     have HW2:=Za (HW1.out.trans (if_neg (by simp)))
     clear HW1;go_wp2
     go_meet
     case rel=>exact⟨⟨#[]⟩,rfl,HW2.out.symm,by decide,HN.out⟩
    ·rw[h1,h2]at c6
     unfold maxLen at h4
     by_cases hlt:1<bs.length
     ·have hck:=hrow.cell (show 0<bs.length by omega)
      rw[Xh]at hck
      have HG:=Za (show(bs.map tl).getD 0 []=tl bs[0]by rw[Xc,Xd,Xa (by omega)];rfl)
      generalize bs[0]=p at *
      by_cases hz:p.size=0
      ·have hz':=Zm hz
       have HW2:=Za (HW1.out.trans (if_pos ⟨hlt,by rw[HG.out];exact ZA hz⟩))
       clear HW1 hz;go_wp2
       go_meet
       case rel=>exact⟨⟨#[47,46]⟩,rfl,HW2.out.symm,by decide,HN.out⟩
      ·have hz':=Zi hz
       have HW2:=Za (HW1.out.trans (if_neg (fun g=>hz (by rw[HG.out]at g;rw[←tl_length,g.2];rfl))))
       clear HW1 hz;go_wp2
       go_meet
       case rel=>exact⟨⟨#[]⟩,rfl,HW2.out.symm,by decide,HN.out⟩
     ·have HW2:=Za (HW1.out.trans (if_neg (fun g=>hlt g.1)))
      clear HW1;go_wp2
      go_meet
      case rel=>exact⟨⟨#[]⟩,rfl,HW2.out.symm,by decide,HN.out⟩
   ·have HW1:=Za (HW.out.trans (if_pos rfl))
    clear HW hsg;go_wp2_with fail
    refine(ZbS rb R u bs _ HB1.out HR1.out l3 l8).mono ?_
    rintro e w2 ⟨t,rfl,ht,htl,hn⟩;have HT:=Za ht;have HN2:=Za (HN.out.then hn);clear ht hn;go_wp2
    go_meet
    case rel=>exact⟨(⟨#[47,47]⟩:BA)++who++t,rfl,by rw[HW1.out,Zd,Zd,HWH.out,HT.out];rfl,by rw[Zh,Zh];show 2+who.size+t.size≤_;omega,HN2.out⟩
  case rest=>
   obtain⟨wh,rfl,hwh,hwhl,hnc⟩:=hcut;have HWT:=Za hwh;have HN2:=Za hnc;clear hwh hnc hsg c0 c1 c2 c3 c4 c5 c6 c7 c8 c9 c10 c11 c12;obtain⟨w2,hw2⟩:∃w2,w2=wc:=⟨_,rfl⟩;subst hw2;go_wp2_with fail
   refine(ZdZ rb R u bs _ (HB.out.on HN2.out) (HR.out.on HN2.out) l7).mono ?_
   rintro e w3 ⟨pt,rfl,hpt,hptl,hn⟩;have HPT:=Za hpt;have HN3:=Za (HN2.out.then hn);clear hpt hn;obtain⟨c0,c1,c2,c3,c4,c5,c6,c7,c8,c9,c10,c11,c12⟩:=(HB.out.on HN3.out).cells;have HB':=HB;have HR':=HR;clear HB HR HB1 HR1;obtain⟨sch,user,pass,his,htx,port,po,pn,pc,op,bl,hq,q,hf,fr⟩:=R;simp only at *
   cases hq
   all_goals cases hf
   all_goals go_wp2
   all_goals go_ret
   all_goals exact⟨_,rfl,by rw[HD.out];simp only[if_true,Xe,if_false,Zd,HWT.out,HPT.out,Xf];simp[tl],HN3.out⟩
theorem Zw8(rb:Nat)(R:RR)(u:RU)(bs:LA)(w:World)(h:RB w rb R)(hr:RIs w R u bs)(hl:RL R)(hu:¬R.user.size=0)(hp:R.pass.size=0):Calls Tryz.prog 113 #[.pointer (some ⟨rb,0,none⟩)] w fun e w'=>∃t:BA,e=.returned (.string t)∧tl t=ZhN u∧Nx w w':=by
 have HB:=Za h;have HR:=Za hr;have HL:=Za hl
 have HD:=Za (show ZhN u=tl R.sch++[58]++Zdc u++Zdi u++(if R.hq=true then [63]++tl R.q else [])++(if R.hf=true then [35]++tl R.fr else [])by rw[←hr.eq];rfl)
 have HW:=Za (show Zdc u=if R.his=true then [47,47]++ZfZ u++Zdt u else if 1<bs.length∧(bs.map tl).getD 0 []=[]then [47,46]else []by rw[←Xb (f:=tl),←hr.eq];rfl)
 have HU:=Za (show ZfZ u=if tl R.user=[]∧tl R.pass=[]then []else if tl R.pass=[]then tl R.user++[64]else tl R.user++[58]++tl R.pass++[64]by rw[←hr.eq];rfl)
 have ls:=hr.lsch;have l1:=hl.user;have l2:=hl.pass;have l3:=hl.htx;have l5:=hl.q;have l6:=hl.fr;have l7:=hl.bl;have l8:=hl.port;obtain⟨c0,c1,c2,c3,c4,c5,c6,c7,c8,c9,c10,c11,c12⟩:=h.cells;have hu':=Zi hu;have hp':=Zm hp;have HE1:=Za (Zdg hu);have HE2:=Za (Zoz hp);have hsg:=hr.seg';clear h hr hl hu hp
 go_enter Tryz.func113,Tryz.ntmps113
 go_upto_if 19 with fail
 go_cut [3]from 8 (fun s wx=>∃who:BA,s=.string who∧tl who=ZfZ u∧who.size≤600002∧Nx w wx∧RB wx rb R∧RIs wx R u bs)
 case first=>
  go_wp2
  all_goals try exact absurd (by assumption:(!R.pass.toList.isEmpty)=true) (by rw[hp'];decide)
  go_meet
  case rel=>exact⟨R.user++(⟨#[64]⟩:BA),rfl,by rw[HU.out,if_neg (fun g=>HE1.out g.1),if_pos HE2.out,Zd];rfl,by rw[Zh];show R.user.size+1≤_;omega,Nx.rfl,HB.out,HR.out⟩
 case rest=>
  obtain⟨who,rfl,hwho,hwl,hnc,hbc,hrc⟩:=hcut;have HWH:=Za hwho;have HN:=Za hnc;have HB1:=Za hbc;have HR1:=Za hrc;clear hwho hnc hbc hrc c0 c1 c2 c3 c4 c5 c6 c7 c8 c9 c10 c11 c12 hu' hp' hsg;obtain⟨w1,hw1⟩:∃w1,w1=wc:=⟨_,rfl⟩;subst hw1;have hsg:=HR1.out.seg';obtain⟨c0,c1,c2,c3,c4,c5,c6,c7,c8,c9,c10,c11,c12⟩:=HB1.out.cells
  go_upto_if 45 with fail
  go_cut [4,5]from 8 (fun s _ wx=>∃t:BA,s=.string t∧tl t=Zdc u∧t.size≤2000000∧Nx w wx)
  case first=>
   generalize R.his=his at *
   cases his
   ·have HW1:=Za (HW.out.trans (if_neg (by decide)))
    clear HW;rcases hsg with⟨h1,h2,h3,rfl⟩|⟨b,off,h1,h2,h3,h4,hrow⟩
    ·rw[h1,h2,h3]at c6
     have HW2:=Za (HW1.out.trans (if_neg (by simp)))
     clear HW1;go_wp2
     go_meet
     case rel=>exact⟨⟨#[]⟩,rfl,HW2.out.symm,by decide,HN.out⟩
    ·rw[h1,h2]at c6
     unfold maxLen at h4
     by_cases hlt:1<bs.length
     ·have hck:=hrow.cell (show 0<bs.length by omega)
      rw[Xh]at hck
      have HG:=Za (show(bs.map tl).getD 0 []=tl bs[0]by rw[Xc,Xd,Xa (by omega)];rfl)
      generalize bs[0]=p at *
      by_cases hz:p.size=0
      ·have hz':=Zm hz
       have HW2:=Za (HW1.out.trans (if_pos ⟨hlt,by rw[HG.out];exact ZA hz⟩))
       clear HW1 hz;go_wp2
       go_meet
       case rel=>exact⟨⟨#[47,46]⟩,rfl,HW2.out.symm,by decide,HN.out⟩
      ·have hz':=Zi hz
       have HW2:=Za (HW1.out.trans (if_neg (fun g=>hz (by rw[HG.out]at g;rw[←tl_length,g.2];rfl))))
       clear HW1 hz;go_wp2
       go_meet
       case rel=>exact⟨⟨#[]⟩,rfl,HW2.out.symm,by decide,HN.out⟩
     ·have HW2:=Za (HW1.out.trans (if_neg (fun g=>hlt g.1)))
      clear HW1;go_wp2
      go_meet
      case rel=>exact⟨⟨#[]⟩,rfl,HW2.out.symm,by decide,HN.out⟩
   ·have HW1:=Za (HW.out.trans (if_pos rfl))
    clear HW hsg;go_wp2_with fail
    refine(ZbS rb R u bs _ HB1.out HR1.out l3 l8).mono ?_
    rintro e w2 ⟨t,rfl,ht,htl,hn⟩;have HT:=Za ht;have HN2:=Za (HN.out.then hn);clear ht hn;go_wp2
    go_meet
    case rel=>exact⟨(⟨#[47,47]⟩:BA)++who++t,rfl,by rw[HW1.out,Zd,Zd,HWH.out,HT.out];rfl,by rw[Zh,Zh];show 2+who.size+t.size≤_;omega,HN2.out⟩
  case rest=>
   obtain⟨wh,rfl,hwh,hwhl,hnc⟩:=hcut;have HWT:=Za hwh;have HN2:=Za hnc;clear hwh hnc hsg c0 c1 c2 c3 c4 c5 c6 c7 c8 c9 c10 c11 c12;obtain⟨w2,hw2⟩:∃w2,w2=wc:=⟨_,rfl⟩;subst hw2;go_wp2_with fail
   refine(ZdZ rb R u bs _ (HB.out.on HN2.out) (HR.out.on HN2.out) l7).mono ?_
   rintro e w3 ⟨pt,rfl,hpt,hptl,hn⟩;have HPT:=Za hpt;have HN3:=Za (HN2.out.then hn);clear hpt hn;obtain⟨c0,c1,c2,c3,c4,c5,c6,c7,c8,c9,c10,c11,c12⟩:=(HB.out.on HN3.out).cells;have HB':=HB;have HR':=HR;clear HB HR HB1 HR1;obtain⟨sch,user,pass,his,htx,port,po,pn,pc,op,bl,hq,q,hf,fr⟩:=R;simp only at *
   cases hq
   all_goals cases hf
   all_goals go_wp2
   all_goals go_ret
   all_goals exact⟨_,rfl,by rw[HD.out];simp only[if_true,Xe,if_false,Zd,HWT.out,HPT.out,Xf];simp[tl],HN3.out⟩
theorem Zw9(rb:Nat)(R:RR)(u:RU)(bs:LA)(w:World)(h:RB w rb R)(hr:RIs w R u bs)(hl:RL R)(hu:¬R.user.size=0)(hp:¬R.pass.size=0):Calls Tryz.prog 113 #[.pointer (some ⟨rb,0,none⟩)] w fun e w'=>∃t:BA,e=.returned (.string t)∧tl t=ZhN u∧Nx w w':=by
 have HB:=Za h;have HR:=Za hr;have HL:=Za hl
 have HD:=Za (show ZhN u=tl R.sch++[58]++Zdc u++Zdi u++(if R.hq=true then [63]++tl R.q else [])++(if R.hf=true then [35]++tl R.fr else [])by rw[←hr.eq];rfl)
 have HW:=Za (show Zdc u=if R.his=true then [47,47]++ZfZ u++Zdt u else if 1<bs.length∧(bs.map tl).getD 0 []=[]then [47,46]else []by rw[←Xb (f:=tl),←hr.eq];rfl)
 have HU:=Za (show ZfZ u=if tl R.user=[]∧tl R.pass=[]then []else if tl R.pass=[]then tl R.user++[64]else tl R.user++[58]++tl R.pass++[64]by rw[←hr.eq];rfl)
 have ls:=hr.lsch;have l1:=hl.user;have l2:=hl.pass;have l3:=hl.htx;have l5:=hl.q;have l6:=hl.fr;have l7:=hl.bl;have l8:=hl.port;obtain⟨c0,c1,c2,c3,c4,c5,c6,c7,c8,c9,c10,c11,c12⟩:=h.cells;have hu':=Zi hu;have hp':=Zi hp;have HE1:=Za (Zdg hu);have HE2:=Za (Zdg hp);have hsg:=hr.seg';clear h hr hl hu hp
 go_enter Tryz.func113,Tryz.ntmps113
 go_upto_if 19 with fail
 go_cut [3]from 8 (fun s wx=>∃who:BA,s=.string who∧tl who=ZfZ u∧who.size≤600002∧Nx w wx∧RB wx rb R∧RIs wx R u bs)
 case first=>
  go_upto_region 5 with fail
  all_goals try exact absurd (by assumption:(!R.pass.toList.isEmpty)=false) (by rw[hp'];decide)
  go_region
  go_wp2
  go_meet
  case rel=>exact⟨R.user++(⟨#[58]⟩:BA)++R.pass++(⟨#[64]⟩:BA),rfl,by rw[HU.out,if_neg (fun g=>HE2.out g.2),if_neg HE2.out,Zd,Zd,Zd];rfl,by rw[Zh,Zh,Zh];show R.user.size+1+R.pass.size+1≤_;omega,Nx.rfl.drew,HB.out.on Nx.rfl.drew,HR.out.on Nx.rfl.drew⟩
 case rest=>
  obtain⟨who,rfl,hwho,hwl,hnc,hbc,hrc⟩:=hcut;have HWH:=Za hwho;have HN:=Za hnc;have HB1:=Za hbc;have HR1:=Za hrc;clear hwho hnc hbc hrc c0 c1 c2 c3 c4 c5 c6 c7 c8 c9 c10 c11 c12 hu' hp' hsg;obtain⟨w1,hw1⟩:∃w1,w1=wc:=⟨_,rfl⟩;subst hw1;have hsg:=HR1.out.seg';obtain⟨c0,c1,c2,c3,c4,c5,c6,c7,c8,c9,c10,c11,c12⟩:=HB1.out.cells
  go_upto_if 45 with fail
  go_cut [4,5]from 8 (fun s _ wx=>∃t:BA,s=.string t∧tl t=Zdc u∧t.size≤2000000∧Nx w wx)
  case first=>
   generalize R.his=his at *
   cases his
   ·have HW1:=Za (HW.out.trans (if_neg (by decide)))
    clear HW;rcases hsg with⟨h1,h2,h3,rfl⟩|⟨b,off,h1,h2,h3,h4,hrow⟩
    ·rw[h1,h2,h3]at c6
     have HW2:=Za (HW1.out.trans (if_neg (by simp)))
     clear HW1;go_wp2
     go_meet
     case rel=>exact⟨⟨#[]⟩,rfl,HW2.out.symm,by decide,HN.out⟩
    ·rw[h1,h2]at c6
     unfold maxLen at h4
     by_cases hlt:1<bs.length
     ·have hck:=hrow.cell (show 0<bs.length by omega)
      rw[Xh]at hck
      have HG:=Za (show(bs.map tl).getD 0 []=tl bs[0]by rw[Xc,Xd,Xa (by omega)];rfl)
      generalize bs[0]=p at *
      by_cases hz:p.size=0
      ·have hz':=Zm hz
       have HW2:=Za (HW1.out.trans (if_pos ⟨hlt,by rw[HG.out];exact ZA hz⟩))
       clear HW1 hz;go_wp2
       go_meet
       case rel=>exact⟨⟨#[47,46]⟩,rfl,HW2.out.symm,by decide,HN.out⟩
      ·have hz':=Zi hz
       have HW2:=Za (HW1.out.trans (if_neg (fun g=>hz (by rw[HG.out]at g;rw[←tl_length,g.2];rfl))))
       clear HW1 hz;go_wp2
       go_meet
       case rel=>exact⟨⟨#[]⟩,rfl,HW2.out.symm,by decide,HN.out⟩
     ·have HW2:=Za (HW1.out.trans (if_neg (fun g=>hlt g.1)))
      clear HW1;go_wp2
      go_meet
      case rel=>exact⟨⟨#[]⟩,rfl,HW2.out.symm,by decide,HN.out⟩
   ·have HW1:=Za (HW.out.trans (if_pos rfl))
    clear HW hsg;go_wp2_with fail
    refine(ZbS rb R u bs _ HB1.out HR1.out l3 l8).mono ?_
    rintro e w2 ⟨t,rfl,ht,htl,hn⟩;have HT:=Za ht;have HN2:=Za (HN.out.then hn);clear ht hn;go_wp2
    go_meet
    case rel=>exact⟨(⟨#[47,47]⟩:BA)++who++t,rfl,by rw[HW1.out,Zd,Zd,HWH.out,HT.out];rfl,by rw[Zh,Zh];show 2+who.size+t.size≤_;omega,HN2.out⟩
  case rest=>
   obtain⟨wh,rfl,hwh,hwhl,hnc⟩:=hcut;have HWT:=Za hwh;have HN2:=Za hnc;clear hwh hnc hsg c0 c1 c2 c3 c4 c5 c6 c7 c8 c9 c10 c11 c12;obtain⟨w2,hw2⟩:∃w2,w2=wc:=⟨_,rfl⟩;subst hw2;go_wp2_with fail
   refine(ZdZ rb R u bs _ (HB.out.on HN2.out) (HR.out.on HN2.out) l7).mono ?_
   rintro e w3 ⟨pt,rfl,hpt,hptl,hn⟩;have HPT:=Za hpt;have HN3:=Za (HN2.out.then hn);clear hpt hn;obtain⟨c0,c1,c2,c3,c4,c5,c6,c7,c8,c9,c10,c11,c12⟩:=(HB.out.on HN3.out).cells;have HB':=HB;have HR':=HR;clear HB HR HB1 HR1;obtain⟨sch,user,pass,his,htx,port,po,pn,pc,op,bl,hq,q,hf,fr⟩:=R;simp only at *
   cases hq
   all_goals cases hf
   all_goals go_wp2
   all_goals go_ret
   all_goals exact⟨_,rfl,by rw[HD.out];simp only[if_true,Xe,if_false,Zd,HWT.out,HPT.out,Xf];simp[tl],HN3.out⟩
theorem Zuy(rb:Nat)(R:RR)(u:RU)(bs:LA)(w:World)(h:RB w rb R)(hr:RIs w R u bs)(hl:RL R):Calls Tryz.prog 113 #[.pointer (some ⟨rb,0,none⟩)] w fun e w'=>∃t:BA,e=.returned (.string t)∧tl t=ZhN u∧Nx w w':=by
 by_cases hu:R.user.size=0
 ·by_cases hp:R.pass.size=0
  ·exact Zw6 rb R u bs w h hr hl hu hp
  ·exact Zw7 rb R u bs w h hr hl hu hp
 ·by_cases hp:R.pass.size=0
  ·exact Zw8 rb R u bs w h hr hl hu hp
  ·exact Zw9 rb R u bs w h hr hl hu hp
theorem Zkw{s:BA}{l:LB}{n:Nat}(h:tl s=l)(hn:l.length≤n):s.size≤n:=by rw[←tl_length,h];exact hn
theorem Zuz(rb:Nat)(R:RR)(u:RU)(bs:LA)(w:World)(h:RB w rb R)(hr:RIs w R u bs)(hl:RL R)(hsp:Zg u.sch=true)(hf:u.sch≠ZO):Calls Tryz.prog 114 #[.pointer (some ⟨rb,0,none⟩)] w fun e w'=>∃t:BA,e=.returned (.string t)∧tl t=Zbs u∧Nx w w':=by
 have HB:=Za h;have HR:=Za hr
 have HE:=Za (show Zbs u=tl R.sch++[58,47,47]++Zdt u by unfold Zbs Zf0;rw[if_pos ⟨hsp,hf⟩,hr.usch])
 have ls:=hr.lsch;have l3:=hl.htx;have l8:=hl.port;have c0:=h.cells.1
 have hfb:=neB (s:=R.sch) (l:=[102,105,108,101]) (by rw[hr.usch];exact hf)
 have hfb':=ZzQ hfb
 have HSP:=Za (show Zg (tl R.sch)=true by rw[hr.usch];exact hsp)
 clear h hr hl hf hsp
 go_enter Tryz.func114,Tryz.ntmps114
 go_wp2_with fail
 refine(ZI R.sch _).mono ?_
 rintro e w1 ⟨rfl,hn1⟩;rw[HSP.out];have HN1:=Za hn1;have c01:=(HB.out.on hn1).cells.1;clear hn1 c0;go_wp2_with fail
 refine(ZbS rb R u bs _ (HB.out.on HN1.out) (HR.out.on HN1.out) l3 l8).mono ?_
 rintro e w2 ⟨t,rfl,ht,htl,hn2⟩;have HT:=Za ht;have HN2:=Za (HN1.out.then hn2);have c02:=(HB.out.on HN2.out).cells.1;clear ht hn2 c01;go_wp2;go_ret
 exact⟨_,rfl,by rw[HE.out,Zd,Zd,HT.out];rfl,HN2.out⟩
theorem ZuA(rb:Nat)(R:RR)(u:RU)(bs:LA)(w:World)(h:RB w rb R)(hr:RIs w R u bs)(hsp:¬(Zg u.sch=true∧u.sch≠ZO))(hbl:u.sch≠Zrj):Calls Tryz.prog 114 #[.pointer (some ⟨rb,0,none⟩)] w fun e w'=>∃t:BA,e=.returned (.string t)∧tl t=Zbs u∧Nx w w':=by
 have HB:=Za h
 have HE:=Za (show Zbs u=Zt7 by unfold Zbs;rw[if_neg hsp,if_neg hbl])
 have c0:=h.cells.1
 have hcase:(Zg (tl R.sch)=false)∨(Zg (tl R.sch)=true∧(R.sch.toList == [102,105,108,101])=true):=by
  rw[hr.usch]
  cases hx:Zg u.sch
  ·exact Or.inl rfl
  ·right
   refine⟨rfl,eqB ?_⟩
   rw[hr.usch]
   exact Classical.byContradiction fun g=>hsp ⟨hx,g⟩
 have hbb:=neB (s:=R.sch) (l:=[98,108,111,98]) (by rw[hr.usch];exact hbl)
 clear h hr hsp hbl
 go_enter Tryz.func114,Tryz.ntmps114
 go_wp2_with fail
 refine(ZI R.sch _).mono ?_
 rintro e w1 ⟨rfl,hn1⟩;have HN1:=Za hn1;have c01:=(HB.out.on hn1).cells.1;clear hn1 c0;rcases hcase with hx|⟨hx,hfb⟩
 ·rw[hx]
  clear hx;go_wp2;go_ret
  exact⟨_,rfl,by rw[HE.out];rfl,HN1.out⟩
 ·rw[hx]
  have hfb':=ZzR hfb;clear hx;go_wp2;go_ret
  exact⟨_,rfl,by rw[HE.out];rfl,HN1.out⟩
theorem ZuB(rb:Nat)(R:RR)(u:RU)(bs:LA)(w:World)(h:RB w rb R)(hr:RIs w R u bs)(hl:RL R)(hbl:u.sch=Zrj)(hpl:(Zdi u).length≤20000)(hin:(Zaj (Zdi u) none).2=0→(Zaj (Zdi u) none).1.htx.length≤300000∧(Zaj (Zdi u) none).1.port≤65535):Calls Tryz.prog 114 #[.pointer (some ⟨rb,0,none⟩)] w fun e w'=>∃t:BA,e=.returned (.string t)∧tl t=Zbs u∧Nx w w':=by
 have HB:=Za h;have HR:=Za hr
 have HD:=Za (show Zbs u=ZiX (Zaj (Zdi u) none)by unfold Zbs;rw[if_neg (by rw[hbl];decide),if_pos hbl])
 have HIN:=Za hin;have HPL:=Za hpl;have l7:=hl.bl;have c0:=h.cells.1
 have HSP:=Za (show Zg (tl R.sch)=false by rw[hr.usch,hbl];decide)
 have hbb:=eqB (s:=R.sch) (l:=[98,108,111,98]) (by rw[hr.usch];exact hbl)
 clear h hr hl hbl hpl hin
 go_enter Tryz.func114,Tryz.ntmps114
 go_wp2_with fail
 refine(ZI R.sch _).mono ?_
 rintro e w1 ⟨rfl,hn1⟩;rw[HSP.out];have HN1:=Za hn1;have c01:=(HB.out.on hn1).cells.1;clear hn1 c0;go_wp2_with fail
 refine(ZdZ rb R u bs _ (HB.out.on HN1.out) (HR.out.on HN1.out) l7).mono ?_
 rintro e w2 ⟨p,rfl,hp,hpsz,hn2⟩;have HP:=Za hp;have HN2:=Za (HN1.out.then hn2);have hp2:p.size≤20000:=Zkw hp HPL.out;clear hp hn2 c01 hpsz;go_wp2_with fail
 refine(Zkt p (.pointer none) none _ hp2 (Or.inl ⟨rfl,rfl⟩)).mono ?_
 rintro e w3 hx;rw[HP.out]at hx;generalize Zaj (Zdi u) none=x at *;obtain⟨v,err⟩:=x;simp only at HIN;rcases hx with⟨he,rfl,hn3⟩|⟨he,vb,V,vs,rfl,hB,hV,-,hn3⟩
 ·have HE:=Za (show Zbs u=Zt7 by rw[HD.out];unfold ZiX;rw[if_neg (fun g=>he g.1)])
  have he1:(err==0)=false:=beq_eq_false_iff_ne.2 he;have HN3:=Za (HN2.out.then hn3);clear he hn3 HIN HD;go_wp2;go_ret
  exact⟨_,rfl,by rw[HE.out];rfl,HN3.out⟩
 ·simp only at he
  subst he;have HN3:=Za (HN2.out.then hn3);have HVB:=Za hB
  replace hV:RIs w3 V v vs:=hV
  have HVI:=Za hV;obtain⟨g1,g2⟩:=HIN.out rfl
  have v3:V.htx.size≤300000:=Zkw (show tl V.htx=v.htx by rw[←hV.eq];rfl) g1
  have v8:V.port≤65535:=by have:V.port=v.port:=by rw[←hV.eq];rfl
                           rw[this];exact g2
  have vls:=hV.lsch;have d0:=hB.cells.1;have HVS:=Za hV.usch;clear hn3 hB hV g1 g2 HIN
  by_cases hh:v.sch=ZyD
  ·have HE:=Za (show Zbs u=tl V.sch++[58,47,47]++Zdt v by rw[HD.out];unfold ZiX Zf0;rw[if_pos ⟨rfl,Or.inl hh⟩,HVS.out])
   have hb1:=eqB (s:=V.sch) (l:=[104,116,116,112]) (by rw[HVS.out];exact hh)
   clear HD hh;go_wp2_with fail
   refine(ZbS vb V v vs _ HVB.out HVI.out v3 v8).mono ?_
   rintro e w4 ⟨t,rfl,ht,htl,hn4⟩;have HT:=Za ht;have HN4:=Za (HN3.out.then hn4);have d04:=(HVB.out.on hn4).cells.1;clear ht hn4 d0;go_wp2;go_ret
   exact⟨_,rfl,by rw[HE.out,Zd,Zd,HT.out];rfl,HN4.out⟩
  ·have hb1:=neB (s:=V.sch) (l:=[104,116,116,112]) (by rw[HVS.out];exact hh)
   by_cases hh2:v.sch=Zt6
   ·have HE:=Za (show Zbs u=tl V.sch++[58,47,47]++Zdt v by rw[HD.out];unfold ZiX Zf0;rw[if_pos ⟨rfl,Or.inr hh2⟩,HVS.out])
    have hb2:=eqB (s:=V.sch) (l:=[104,116,116,112,115]) (by rw[HVS.out];exact hh2)
    clear HD hh hh2;go_wp2_with fail
    refine(ZbS vb V v vs _ HVB.out HVI.out v3 v8).mono ?_
    rintro e w4 ⟨t,rfl,ht,htl,hn4⟩;have HT:=Za ht;have HN4:=Za (HN3.out.then hn4);have d04:=(HVB.out.on hn4).cells.1;clear ht hn4 d0;go_wp2;go_ret
    exact⟨_,rfl,by rw[HE.out,Zd,Zd,HT.out];rfl,HN4.out⟩
   ·have HE:=Za (show Zbs u=Zt7 by rw[HD.out];unfold ZiX;rw[if_neg (by rintro⟨-,g|g⟩;exact hh g;exact hh2 g)])
    have hb2:=neB (s:=V.sch) (l:=[104,116,116,112,115]) (by rw[HVS.out];exact hh2)
    clear HD hh hh2;go_wp2;go_ret
    exact⟨_,rfl,by rw[HE.out];rfl,HN3.out⟩
def ZuC(u:RU):Prop:=u.sch=Zrj→(Zdi u).length≤20000∧((Zaj (Zdi u) none).2=0→(Zaj (Zdi u) none).1.htx.length≤300000∧(Zaj (Zdi u) none).1.port≤65535)
theorem ZoA(rb:Nat)(R:RR)(u:RU)(bs:LA)(w:World)(h:RB w rb R)(hr:RIs w R u bs)(hl:RL R)(hb:ZuC u):Calls Tryz.prog 114 #[.pointer (some ⟨rb,0,none⟩)] w fun e w'=>∃t:BA,e=.returned (.string t)∧tl t=Zbs u∧Nx w w':=by
 by_cases hsp:Zg u.sch=true∧u.sch≠ZO
 ·exact Zuz rb R u bs w h hr hl hsp.1 hsp.2
 ·by_cases hbl:u.sch=Zrj
  ·exact ZuB rb R u bs w h hr hl hbl (hb hbl).1 (hb hbl).2
  ·exact ZuA rb R u bs w h hr hsp hbl
end Go.Proofs.YtchkhibgbnhjpabGreatDoor
