import Derived.Test.YtchkhibgbnhjpaaGreatDoorP41
open Array renaming getElem?_eq_some_iff→Xc
open List renaming length_take→Xa,eq_nil_of_length_eq_zero→Xb,takeWhile_cons→Xd,length_drop→Xe,length_nil→Xf,mem_filter→Xg
namespace Go.Proofs.YtchkhibgbnhjpaaGreatDoor
open Go.RowKit
set_option maxHeartbeats 8000000
set_option maxRecDepth 8000
theorem ZvH{l:LI}{k:Nat}(h:(l.take k).all numeral=true)(hk:k<l.length)(hn:numeral l[k]=true):(l.take (k+1)).all numeral=true:=by
 rw[List.take_succ_eq_append_getElem hk,List.all_append,h]
 simp[hn]
theorem ZtJ{l:LI}(h:l.all numeral=true):l.takeWhile numeral=l:=by
 induction l with
 | nil=>rfl
 | cons c r ih=>
  rw[List.all_cons,Bool.and_eq_true]at h;rw[Xd,if_pos h.1,ih h.2]
theorem ZtK{l:LI}(h:(l.take l.length).all numeral=true):l.takeWhile numeral=l.take l.length:=by rw[List.take_length]at h ⊢;exact ZtJ h
theorem ZqY{l:LI}{k:Nat}(h:(l.take k).all numeral=true)(hk:k<l.length)(hn:numeral l[k]=false):l.takeWhile numeral=l.take k:=by
 have e:l=l.take k++l[k]::l.drop (k+1):=by rw[List.getElem_cons_drop,List.take_append_drop]
 conv=>lhs;rw[e]
 rw[List.takeWhile_append_of_pos (by simpa using h),Xd,if_neg (by rw[hn];decide),List.append_nil]
theorem ZmC(rb:Nat)(R:RR)(u:RU)(bs:LA)(b off cap:Nat)(l:LI)(w:World)(h:RB w rb R)(hr:RIs w R u bs)(hrow:RowAt 3 (Value.int .i64) w b off l)(hlc:l.length≤cap)(hcap:cap≤maxLen)(hl:l.length≤100000):Calls Tryz.prog 133 #[.pointer (some ⟨rb,0,none⟩),.slice (some ⟨b,off,none⟩) l.length cap] w fun e w'=>e=.returned (.tuple #[])∧(∃R',RB w' rb R'∧RIs w' R' (ZaE u l) bs)∧But rb w w':=by
 have HB:=Za h;have HR:=Za hr;have HF:=Za hr.fields
 have HTK:Hid (∀k,k≤l.length→IntsAt w (.slice (some ⟨b,off,none⟩) k cap) (l.take k)):=Za (fun k hk=>ZcW hrow hlc hcap k hk)
 have HRW:=Za hrow;clear h hr hrow;unfold maxLen at hcap
 go_enter Tryz.func133,Tryz.ntmps133
 go_wp2
 go_loopw [4,5] (fun n _ wr=>∃k:Nat,k≤l.length∧n=.int .i64 (k:Int)∧(l.take k).all numeral=true∧w=wr) (fun n _ _=>l.length-(intOf n).toNat)
 case atStart=>exact⟨0,Nat.zero_le _,rfl,rfl,rfl⟩
 case round=>
  obtain⟨k,hk,rfl,hall,rfl⟩:=hrel
  by_cases hlt:k<l.length
  ·have hck:=HRW.out.cell hlt
   go_wp2_with fail
   refine(Zcq _ _).mono ?_
   rintro e w' ⟨rfl,rfl⟩
   cases hnu:numeral l[k]
   ·have HTW:=Za (show l.takeWhile numeral=l.take k from ZqY hall hlt hnu)
    have HAL:=Za hall;clear hnu hck hall
    have HE:=Za (show ZaE u l=if l.take k≠[]∧value (l.take k)≤65535 then { u with port:=Zjd u.sch (value (l.take k)) }else u by unfold ZaE;rw[HTW.out])
    have HSL:=Za (HTK.out k hk)
    have hkc:k≤cap:=by omega
    have hval:=(Zgk (l.take k) HAL.out);go_wp2_with fail
    refine(Zgl _ (l.take k) _ HSL.out).mono ?_
    rintro e w' ⟨n,rfl,hval2,rfl⟩;have hnv:=hval2 HAL.out;subst hnv;clear hval2
    by_cases h0:0<k
    ·have hne:l.take k≠[]:=fun g=>by have:=congrArg List.length g;rw[Xa,Xf]at this;omega
     generalize hvv:value (l.take k)=n at *
     by_cases h1:n≤65535
     ·have HE1:=Za (HE.out.trans (if_pos ⟨hne,h1⟩))
      clear hne hvv HE;go_wp2_with fail
      refine(Zh3 rb R n _ HB.out).mono ?_
      rintro e w1 ⟨rfl,hn1⟩;have HB1:=Za (HB.out.on hn1);have HR1:=Za (HR.out.on hn1);have HN1:=Za hn1;have c5:=HB1.out.cells.2.2.2.2.2.1;have f5:=HB1.out.free 5;clear hn1;go_wp2;obtain⟨k1,k2⟩:=RIs.setPort HB1.out HR1.out (Zjd (tl R.sch) n)
      refine bodyPost_end (results_none rfl _ _ _) rfl ⟨rfl,⟨_,k1,?_⟩,(But.nx HN1.out).set 5 _⟩
      rw[HE1.out,show Zjd u.sch n=Zjd (tl R.sch) n by rw[HF.out.1]]
      exact k2
     ·have HE1:=Za (HE.out.trans (if_neg (fun g=>h1 g.2)))
      clear hne hvv HE;go_wp2
      exact bodyPost_end (results_none rfl _ _ _) rfl ⟨rfl,⟨R,HB.out,by rw[HE1.out];exact HR.out⟩,But.refl rb _⟩
    ·have hk0:k=0:=by omega
     have HE1:=Za (HE.out.trans (if_neg (fun g=>g.1 (by rw[hk0];rfl))))
     clear HE hk0;go_wp2
     exact bodyPost_end (results_none rfl _ _ _) rfl ⟨rfl,⟨R,HB.out,by rw[HE1.out];exact HR.out⟩,But.refl rb _⟩
   ·have hall2:=ZvH hall hlt hnu
    have HA2:=Za hall2;clear hall hall2 hnu hck;go_wp2
    go_roundw
    case rel=>exact⟨k+1,by omega,by go_num,HA2.out,by trivial⟩
    case measure=>simp[intOf];omega
  ·have hkk:k=l.length:=by omega
   have HTW:=Za (show l.takeWhile numeral=l.take k from by subst hkk;exact ZtK hall)
   have HAL:=Za hall;clear hkk hall
   have HE:=Za (show ZaE u l=if l.take k≠[]∧value (l.take k)≤65535 then { u with port:=Zjd u.sch (value (l.take k)) }else u by unfold ZaE;rw[HTW.out])
   have HSL:=Za (HTK.out k hk)
   have hkc:k≤cap:=by omega
   have hval:=(Zgk (l.take k) HAL.out);go_wp2_with fail
   refine(Zgl _ (l.take k) _ HSL.out).mono ?_
   rintro e w' ⟨n,rfl,hval2,rfl⟩;have hnv:=hval2 HAL.out;subst hnv;clear hval2
   by_cases h0:0<k
   ·have hne:l.take k≠[]:=fun g=>by have:=congrArg List.length g;rw[Xa,Xf]at this;omega
    generalize hvv:value (l.take k)=n at *
    by_cases h1:n≤65535
    ·have HE1:=Za (HE.out.trans (if_pos ⟨hne,h1⟩))
     clear hne hvv HE;go_wp2_with fail
     refine(Zh3 rb R n _ HB.out).mono ?_
     rintro e w1 ⟨rfl,hn1⟩;have HB1:=Za (HB.out.on hn1);have HR1:=Za (HR.out.on hn1);have HN1:=Za hn1;have c5:=HB1.out.cells.2.2.2.2.2.1;have f5:=HB1.out.free 5;clear hn1;go_wp2;obtain⟨k1,k2⟩:=RIs.setPort HB1.out HR1.out (Zjd (tl R.sch) n)
     refine bodyPost_end (results_none rfl _ _ _) rfl ⟨rfl,⟨_,k1,?_⟩,(But.nx HN1.out).set 5 _⟩
     rw[HE1.out,show Zjd u.sch n=Zjd (tl R.sch) n by rw[HF.out.1]]
     exact k2
    ·have HE1:=Za (HE.out.trans (if_neg (fun g=>h1 g.2)))
     clear hne hvv HE;go_wp2
     exact bodyPost_end (results_none rfl _ _ _) rfl ⟨rfl,⟨R,HB.out,by rw[HE1.out];exact HR.out⟩,But.refl rb _⟩
   ·have hk0:k=0:=by omega
    have HE1:=Za (HE.out.trans (if_neg (fun g=>g.1 (by rw[hk0];rfl))))
    clear HE hk0;go_wp2
    exact bodyPost_end (results_none rfl _ _ _) rfl ⟨rfl,⟨R,HB.out,by rw[HE1.out];exact HR.out⟩,But.refl rb _⟩
theorem ZmD(rb:Nat)(R:RR)(u:RU)(bs:LA)(w:World)(h:RB w rb R)(hr:RIs w R u bs):Calls Tryz.prog 133 #[.pointer (some ⟨rb,0,none⟩),.slice none 0 0] w fun e w'=>e=.returned (.tuple #[])∧(∃R',RB w' rb R'∧RIs w' R' (ZaE u []) bs)∧But rb w w':=by
 have HB:=Za h;have HR:=Za hr;clear h hr
 go_enter Tryz.func133,Tryz.ntmps133
 go_wp2
 go_loopw [4,5] (fun n _ wr=>n=.int .i64 0∧w=wr) (fun _ _ _=>0)
 case atStart=>exact⟨rfl,rfl⟩
 case round=>
  obtain⟨rfl,rfl⟩:=hrel;go_wp2_with fail
  refine(Zgl _ [] _ (SlAt.nil w)).mono ?_
  rintro e w' ⟨n,rfl,-,rfl⟩;go_wp2;exact bodyPost_end (results_none rfl _ _ _) rfl ⟨rfl,⟨R,HB.out,HR.out⟩,But.refl rb _⟩
theorem Zfd(rb:Nat)(R:RR)(u:RU)(bs:LA)(v:Value)(l:LI)(w:World)(h:RB w rb R)(hr:RIs w R u bs)(hv:IntsAt w v l)(hl:l.length≤100000):Calls Tryz.prog 133 #[.pointer (some ⟨rb,0,none⟩),v] w fun e w'=>e=.returned (.tuple #[])∧(∃R',RB w' rb R'∧RIs w' R' (ZaE u l) bs)∧But rb w w':=by
 obtain⟨ao,cap,rfl,hlc,hcap,hnone,hsome⟩:=hv
 cases ao with
 | none=>
  obtain⟨rfl,rfl⟩:=hnone rfl;exact ZmD rb R u bs w h hr
 | some a=>
  obtain⟨b,off,rfl,hrow⟩:=hsome a rfl;exact ZmC rb R u bs b off cap l w h hr hrow hlc hcap hl
theorem ZqZ(rb:Nat)(R:RR)(u:RU)(bs:LA)(v:Value)(l:LI)(w:World)(h:RB w rb R)(hr:RIs w R u bs)(hv:IntsAt w v l)(hl:l.length≤100000):Calls Tryz.prog 97 #[.pointer (some ⟨rb,0,none⟩),v] w fun e w'=>e=.returned (.tuple #[])∧(∃R',RB w' rb R'∧RIs w' R' (Zfc u l) bs)∧But rb w w':=by
 have HB:=Za h;have HR:=Za hr;have HV:=Za hv;obtain⟨ao,cap,hve,-⟩:=hv;subst hve
 by_cases h0:l=[]
 ·have HE:=Za (show Zfc u l={ u with port:=-1 }from if_pos h0)
  have h0':((l.length:Int)==0)=true:=by rw[h0];rfl
  have c5:=h.cells.2.2.2.2.2.1;have f5:=h.free 5;clear h hr h0 hl
  go_enter Tryz.func97,Tryz.ntmps97
  go_wp2;obtain⟨k1,k2⟩:=RIs.setPort HB.out HR.out (-1)
  exact bodyPost_ret (results_none rfl _ _ _) rfl ⟨rfl,⟨_,k1,by rw[HE.out];exact k2⟩,(But.refl rb w).set 5 _⟩
 ·have HE:=Za (show Zfc u l=ZaE u (flat l)from if_neg h0)
  have h0':((l.length:Int)==0)=false:=beq_eq_false_iff_ne.2 (fun e=>h0 (Xb (by omega)))
  have hfl:=Zen l;clear h hr h0
  go_enter Tryz.func97,Tryz.ntmps97
  go_wp2_with fail
  refine(ZdD _ l _ HV.out (by omega)).mono ?_
  rintro e w1 ⟨v1,rfl,h1,hn1⟩;have H1:=Za h1;have HN1:=Za hn1;clear h1 hn1;go_wp2_with fail
  refine(Zfd rb R u bs _ (flat l) _ (HB.out.on HN1.out) (HR.out.on HN1.out) H1.out (by omega)).mono ?_
  rintro e w2 ⟨rfl,hx,hbt⟩;have HX:=Za hx;have HBT:=Za hbt;clear hx hbt;go_wp2
  exact bodyPost_end (results_none rfl _ _ _) rfl ⟨rfl,by rw[HE.out];exact HX.out,(But.nx HN1.out).then HBT.out⟩
theorem ZgO(e:Int)(w:World):Calls Tryz.prog 130 #[.int .i64 e] w fun r w'=>r=.returned (.int .i64 (ZhP e))∧w=w':=by
 by_cases h:e=2
 ·subst h
  go_enter Tryz.func130,Tryz.ntmps130
  go_wp2;go_ret;exact⟨rfl,rfl⟩
 ·have h':(e==2)=false:=beq_eq_false_iff_ne.2 h
  have HE:=Za (show ZhP e=e from if_neg h);clear h
  go_enter Tryz.func130,Tryz.ntmps130
  go_wp2;go_ret
  exact⟨by rw[HE.out];rfl,rfl⟩
theorem ZxW(ub rb:Nat)(v0:Value)(R:RR)(m:RU)(bs:LA)(ps:List Pq)(s:BA)(w:World)(hu:URB w ub rb v0)(h:RB w rb R)(hr:RIs w R m bs)(hpl:PlAt w v0 ps)(hs:s.size≤160):Calls Tryz.prog 72 #[.pointer (some ⟨ub,0,none⟩),.int .i64 7,.string s] w fun e w'=>ZxM e w w' ub rb (Zjf m 7 (tl s)) (Za6 m 7 (tl s) (ps.map tl2)):=by
 have HU:=Za hu;have HB:=Za h;have HR:=Za hr;have HPL:=Za hpl;have HBA:=Za hr.bare;have a0:=hu.cells.1;clear hu h hr hpl
 go_enter Tryz.func72,Tryz.ntmps72
 go_wp2_with fail
 refine(Zcj s _ (by unfold maxLen;omega)).mono ?_
 rintro e w' ⟨rfl,rfl⟩
 rw[decide_eq_false (show ¬160<s.size by omega)]
 go_wp2_with fail
 refine(Zaw s _ (by omega)).mono ?_
 rintro e w1 ⟨pv,rfl,h1,hn1⟩;have HPV:=Za h1;have HN1:=Za hn1;have hlen:=Zax (tl s);rw[tl_length]at hlen;obtain⟨c0,c1,c2,c3,c4,c5,c6,c7,c8,c9,c10,c11,c12⟩:=(HB.out.on hn1).cells;clear h1 hn1 a0;go_upto_region 6 with fail
 go_cut [10]from 11 (fun b wx=>∃c:Bool,b=.bool c∧(c=true↔ZeL m)∧wx=w1)
 case first=>
  by_cases e1:R.htx.size=0
  ·have e1':=Zl e1
   have HC:=Za (HBA.out.2 (Or.inl (Zga e1)));clear e1;go_wp2_with fail
   go_meet
   case rel=>exact⟨true,rfl,⟨fun _=>HC.out,fun _=>rfl⟩,rfl⟩
  ·have e1':=Zh e1
   by_cases e2:tl R.sch=Zs
   ·have e2':=eqB (s:=R.sch) (l:=[102,105,108,101]) e2
    have HC:=Za (HBA.out.2 (Or.inr e2));clear e1 e2;go_wp2_with fail
    go_meet
    case rel=>exact⟨true,rfl,⟨fun _=>HC.out,fun _=>rfl⟩,rfl⟩
   ·have e2':=neB (s:=R.sch) (l:=[102,105,108,101]) e2
    have HC:=Za (show ¬ZeL m from fun g=>by
     rcases HBA.out.1 g with g|g
     ·exact Zck e1 g
     ·exact e2 g)
    clear e1 e2;go_wp2_with fail
    go_meet
    case rel=>exact⟨false,rfl,⟨fun g=>(by cases g),fun g=>absurd g HC.out⟩,rfl⟩
 case rest=>
  obtain⟨c,rfl,hc,rfl⟩:=hcut;clear HBA c0 c1 c2 c3 c4 c5 c6 c7 c8 c9 c10 c11 c12;have HC:=Za hc;clear hc
  have HE:=Za (show Zjf m 7 (tl s)=(if ZeL m then m else Zfc m (Zk (tl s)),0)from rfl)
  have HY:=Za (show Za6 m 7 (tl s) (ps.map tl2)=ps.map tl2 from rfl)
  cases c
  ·have HX:=Za (show Zjf m 7 (tl s)=(Zfc m (Zk (tl s)),0)by rw[HE.out,if_neg (fun g=>by cases HC.out.2 g)])
   clear HE HC;go_wp2_with fail
   refine(ZqZ rb R m bs _ (Zk (tl s)) _ (HB.out.on HN1.out) (HR.out.on HN1.out) HPV.out (by omega)).mono ?_
   rintro e w2 ⟨rfl,hx,hbt⟩;have HRX:=Za hx;have HBT:=Za hbt;clear hx hbt;go_wp2;go_ret;rw[HX.out,HY.out];obtain⟨R',k1,k2⟩:=HRX.out;have hkp:=HBT.out.kp (HB.out.on HN1.out)
   exact⟨rfl,⟨rb,R',bs,v0,ps,(HU.out.on HN1.out).but HBT.out ((HU.out.on HN1.out).ne (HB.out.on HN1.out)),k1,k2,(HPL.out.on HN1.out).kp hkp (by decide),rfl,Or.inl rfl⟩,Two.r ((But.nx HN1.out).then HBT.out)⟩
  ·have HX:=Za (show Zjf m 7 (tl s)=(m,0)by rw[HE.out,if_pos (HC.out.1 rfl)])
   clear HE HC;go_wp2;go_ret;rw[HX.out,HY.out];exact⟨rfl,⟨rb,R,bs,v0,ps,HU.out.on HN1.out,HB.out.on HN1.out,HR.out.on HN1.out,HPL.out.on HN1.out,rfl,Or.inl rfl⟩,Two.nx HN1.out⟩
theorem HostC.on{w w':World}{hb:Nat}{is:Bool}{t:BA}(h:HostC w hb is t)(hn:Nx w w'):HostC w' hb is t:=(hn.block hb (Xc.1 h).1).trans h
theorem HostC.but{w w':World}{hb rb:Nat}{is:Bool}{t:BA}(h:HostC w hb is t)(hn:But rb w w')(hne:hb≠rb):HostC w' hb is t:=(hn.block hb (Xc.1 h).1 hne).trans h
theorem ZmE(u:RU)(l:LI):{ (ZH u l).1 with his:=u.his,htx:=u.htx }=u:=by
 unfold ZH
 split
 ·rfl
 ·split
  ·rfl
  ·split<;>rfl
theorem Zn6(rb:Nat)(R:RR)(u:RU)(bs:LA)(v:Value)(p:LI)(ports:Bool)(w:World)(h:RB w rb R)(hr:RIs w R u bs)(hv:IntsAt w v p)(hl:p.length≤1000)(hp:∀c∈p,Pt c)(hf:u.sch=Zs):Calls Tryz.prog 96 #[.pointer (some ⟨rb,0,none⟩),v,.bool ports] w fun e w'=>e=.returned (.int .i64 (Zam u p ports).2)∧(∃R',RB w' rb R'∧RIs w' R' (Zam u p ports).1 bs)∧But rb w w':=by
 have HB:=Za h;have HR:=Za hr;have HF:=Za hr.fields;have HV:=Za hv
 have HPN:Hid (∀c∈(cut p (Z0 u.sch)).1,Pt c):=Za (fun c hc=>hp c (ZC (Or.inl hc)))
 have HLN:Hid ((cut p (Z0 u.sch)).1.length≤1000):=Za (by have:=(ZaP p (Z0 u.sch)).1;omega)
 have hz:=ZbB (tl R.sch)
 have HST:Hid (tl (Zn (tl R.sch)++(⟨#[63,35]⟩:BA))=Z0 u.sch):=Za (by unfold Z0;rw[←hr.usch,tl_append];rfl)
 have HSZ:Hid ((Zn (tl R.sch)++(⟨#[63,35]⟩:BA)).size≤maxLen):=Za (by rw[ByteArray.size_append];exact Ze (by show _+2≤_;omega))
 have c0:=h.cells.1
 have hfb:=eqB (s:=R.sch) (l:=[102,105,108,101]) (by rw[hr.usch,hf];rfl)
 have HFF:=Za hf;clear hf;clear h hr hp hv
 go_enter Tryz.func96,Tryz.ntmps96
 go_wp2_with fail
 refine(Zv R.sch _).mono ?_
 rintro e w1 ⟨rfl,hn1⟩;have HN1:=Za hn1;have c01:=(HB.out.on hn1).cells.1;clear hn1 c0;go_wp2_with fail
 refine(ZbW R.sch _).mono ?_
 rintro e w2 ⟨rfl,hn2⟩;have HN2:=Za (HN1.out.then hn2);have c02:=(HB.out.on (HN1.out.then hn2)).cells.1;clear hn2 c01 HN1;go_wp2_with fail
 refine(Zbp _ p _ _ HSZ.out (HV.out.on HN2.out)).mono ?_
 rintro e w3 ⟨v1,v2,rfl,h1,-,hn3⟩;rw[HST.out]at h1 ⊢;have HN3:=Za (HN2.out.then hn3);have HV1:=Za h1;clear h1 hn3 c02 HN2 HST HSZ hz;generalize hnm:(cut p (Z0 u.sch)).1=name at *;generalize (cut p (Z0 u.sch)).2.2=ok at *;have HNM:=Za hnm;clear hnm;have HB3:=Za (HB.out.on HN3.out);have HR3:=Za (HR.out.on HN3.out);obtain⟨c0,c1,c2,c3,c4,c5,c6,c7,c8,c9,c10,c11,c12⟩:=HB3.out.cells
 have HD:=Za (show Zam u p ports=if(ZH u name).2≠0 then(u,ZhP (ZH u name).2)else((ZH u name).1,0)by
  unfold Zam
  rw[if_pos HFF.out,HNM.out])
 have hrl:rb<w3.heap.size:=HB3.out.lt;go_upto_region 6 with fail;have HH:=Za (show HostC (w3.alloc (Obj.cells #[.bool R.his,.string R.htx] 86)) w3.heap.size R.his R.htx from heap_alloc_new w3 _);have HB4:=Za (HB3.out.on (Nx.rfl.alloc (Obj.cells #[.bool R.his,.string R.htx] 86)));have HR4:=Za (HR3.out.on (Nx.rfl.alloc (Obj.cells #[.bool R.his,.string R.htx] 86)));have HV4:=Za (HV1.out.on (Nx.rfl.alloc (Obj.cells #[.bool R.his,.string R.htx] 86)));have HN4:=Za (HN3.out.alloc (Obj.cells #[.bool R.his,.string R.htx] 86));obtain⟨hb,hhb⟩:∃hb,hb=w3.heap.size:=⟨_,rfl⟩;rw[←hhb]at HH hrl ⊢;generalize (w3.alloc (Obj.cells #[.bool R.his,.string R.htx] 86))=w4 at *;clear hhb c0 c1 c2 c3 c4 c5 c6 c7 c8 c9 c10 c11 c12 HB3 HR3 HV1;go_wp2_with fail
 refine(ZhK rb R u bs _ name _ HB4.out HR4.out HV4.out (by have:=HLN.out;omega) HPN.out).mono ?_
 rintro e w5 ⟨rfl,⟨R',hB5,hR5⟩,hbt⟩;have HB5:=Za hB5;have HR5:=Za hR5;have HBT:=Za ((But.nx HN4.out).then hbt)
 obtain⟨hc0,hc1⟩:=(HH.out.but hbt (by omega)).cells
 obtain⟨c0,c1,c2,c3,c4,c5,c6,c7,c8,c9,c10,c11,c12⟩:=hB5.cells;have f3:=hB5.free 3;have f4:=hB5.free 4;have HBK:=Za (ZmE u name);clear hB5 hR5 hbt HH HV4 HPN HLN HB4 HR4;generalize ZH u name=y at *;obtain⟨m,err⟩:=y;simp only at HD HR5 HBK ⊢
 by_cases he:err=0
 ·subst he
  have HE:=Za (HD.out.trans (if_neg (fun g=>g rfl)))
  clear HD;go_wp2_with fail
  refine(ZgO 0 _).mono ?_
  rintro e w6 ⟨rfl,rfl⟩;go_wp2;go_ret;rw[HE.out];exact⟨rfl,⟨R',HB5.out,HR5.out⟩,HBT.out⟩
 ·have he1:(err != 0)=true:=bne_iff_ne.2 he
  have he2:(err==0)=false:=beq_eq_false_iff_ne.2 he;have HE:=Za (HD.out.trans (if_pos he));clear HD he;go_upto_region 9 with fail;obtain⟨hB6,hR6⟩:=RIs.setHost HB5.out HR5.out R.his R.htx;have HB6:=Za hB6
  have HR6:=Za (show RIs _ _ u bs from by
   have e:{ m with his:=R.his,htx:=tl R.htx }=u:=by rw[←HF.out.2.2.2.1,←HF.out.2.2.2.2.1];exact HBK.out
   rw[←e];exact hR6)
  have HBT6:=Za (show But rb w ((w5.setCell ⟨rb,3,none⟩ (.bool R.his)).setCell ⟨rb,4,none⟩ (.string R.htx))from(HBT.out.set 3 _).set 4 _);clear hB6 hR6 c0 c1 c2 c3 c4 c5 c6 c7 c8 c9 c10 c11 c12 f3 f4 hc0 hc1;generalize ((w5.setCell ⟨rb,3,none⟩ (.bool R.his)).setCell ⟨rb,4,none⟩ (.string R.htx))=w6 at *;go_wp2_with fail
  refine(ZgO err _).mono ?_
  rintro e w7 ⟨rfl,rfl⟩;go_wp2;go_ret;rw[HE.out];exact⟨rfl,⟨_,HB6.out,HR6.out⟩,HBT6.out⟩
theorem Zn7(rb:Nat)(R:RR)(u:RU)(bs:LA)(v:Value)(p:LI)(ports:Bool)(w:World)(h:RB w rb R)(hr:RIs w R u bs)(hv:IntsAt w v p)(hl:p.length≤1000)(hp:∀c∈p,Pt c)(hf:u.sch≠Zs)(hc:colon (cut p (Z0 u.sch)).1=-1):Calls Tryz.prog 96 #[.pointer (some ⟨rb,0,none⟩),v,.bool ports] w fun e w'=>e=.returned (.int .i64 (Zam u p ports).2)∧(∃R',RB w' rb R'∧RIs w' R' (Zam u p ports).1 bs)∧But rb w w':=by
 have HB:=Za h;have HR:=Za hr;have HF:=Za hr.fields;have HV:=Za hv
 have HPN:Hid (∀c∈(cut p (Z0 u.sch)).1,Pt c):=Za (fun c hc=>hp c (ZC (Or.inl hc)))
 have HLN:Hid ((cut p (Z0 u.sch)).1.length≤1000):=Za (by have:=(ZaP p (Z0 u.sch)).1;omega)
 have hz:=ZbB (tl R.sch)
 have HST:Hid (tl (Zn (tl R.sch)++(⟨#[63,35]⟩:BA))=Z0 u.sch):=Za (by unfold Z0;rw[←hr.usch,tl_append];rfl)
 have HSZ:Hid ((Zn (tl R.sch)++(⟨#[63,35]⟩:BA)).size≤maxLen):=Za (by rw[ByteArray.size_append];exact Ze (by show _+2≤_;omega))
 have c0:=h.cells.1
 have hfb:=neB (s:=R.sch) (l:=[102,105,108,101]) (by rw[hr.usch];exact hf)
 have HFF:=Za hf;clear hf;clear h hr hp hv
 go_enter Tryz.func96,Tryz.ntmps96
 go_wp2_with fail
 refine(Zv R.sch _).mono ?_
 rintro e w1 ⟨rfl,hn1⟩;have HN1:=Za hn1;have c01:=(HB.out.on hn1).cells.1;clear hn1 c0;go_wp2_with fail
 refine(ZbW R.sch _).mono ?_
 rintro e w2 ⟨rfl,hn2⟩;have HN2:=Za (HN1.out.then hn2);have c02:=(HB.out.on (HN1.out.then hn2)).cells.1;clear hn2 c01 HN1;go_wp2_with fail
 refine(Zbp _ p _ _ HSZ.out (HV.out.on HN2.out)).mono ?_
 rintro e w3 ⟨v1,v2,rfl,h1,-,hn3⟩;rw[HST.out]at h1 ⊢;have HN3:=Za (HN2.out.then hn3);have HV1:=Za h1;clear h1 hn3 c02 HN2 HST HSZ hz;generalize hnm:(cut p (Z0 u.sch)).1=name at *;generalize (cut p (Z0 u.sch)).2.2=ok at *;have HNM:=Za hnm;clear hnm;have HB3:=Za (HB.out.on HN3.out);have HR3:=Za (HR.out.on HN3.out);obtain⟨c0,c1,c2,c3,c4,c5,c6,c7,c8,c9,c10,c11,c12⟩:=HB3.out.cells
 have HDM:=Za (show Zam u p ports=Zda u p name ports by
  unfold Zam
  rw[if_neg HFF.out,HNM.out])
 have HSP:Hid (Zf u.sch=Zf (tl R.sch)):=Za (by rw[HF.out.1])
 generalize Zf (tl R.sch)=sp at *;go_wp2_with fail
 refine(Zgp _ name _ HV1.out).mono ?_
 rintro e w' ⟨rfl,rfl⟩;have HC:=Za hc;rw[hc];clear hc;obtain⟨ao,cap,hve,-⟩:=HV1.out;subst hve
 have HD:=Za (show Zam u p ports=if name=[]∧(sp=true∨u.user≠[]∨u.pass≠[]∨0≤u.port)then(u,0)else if(hostOf name sp).2.2≠0 then(u,ZhP (hostOf name sp).2.2)else({ u with his:=(hostOf name sp).1,htx:=(hostOf name sp).2.1 },0)by
  rw[HDM.out];unfold Zda Zcg
  rw[HC.out,if_neg (show ¬((-1:Int)=0∨0<(-1:Int)∧ports=false)by rintro(g|⟨g,-⟩)<;>omega),if_neg (show ¬((0:Int) < -1)by decide),if_neg (show ¬((0:Int) < -1)by decide),HSP.out])
 have HCV:=Za (show(name=[]∧(sp=true∨u.user≠[]∨u.pass≠[]∨0≤u.port))↔(name=[]∧(sp=true∨tl R.user≠[]∨tl R.pass≠[]∨0≤R.port))by rw[HF.out.2.1,HF.out.2.2.1,HF.out.2.2.2.2.2.1])
 clear HDM HC;go_upto_region 13 with fail
 go_cut [94]from 95 (fun b wx=>∃c:Bool,b=.bool c∧(c=true↔(name=[]∧(sp=true∨tl R.user≠[]∨tl R.pass≠[]∨0≤R.port)))∧w3=wx)
 case first=>
  by_cases e0:name=[]
  ·have e0':((name.length:Int)==0)=true:=by rw[e0];rfl
   cases sp
   ·by_cases e1:R.user.size=0
    ·have e1':=Zl e1
     have e1n:=Zga e1
     by_cases e2:R.pass.size=0
     ·have e2':=Zl e2
      have e2n:=Zga e2
      by_cases e3:0≤R.port
      ·have HCC:=Za (show name=[]∧(false=true∨tl R.user≠[]∨tl R.pass≠[]∨0≤R.port)from⟨e0,Or.inr (Or.inr (Or.inr e3))⟩)
       clear e0 e1 e2 e1n e2n;go_wp2_with fail
       go_meet
       case rel=>exact⟨true,rfl,⟨fun _=>HCC.out,fun _=>rfl⟩,rfl⟩
      ·have HCC:=Za (show ¬(name=[]∧(false=true∨tl R.user≠[]∨tl R.pass≠[]∨0≤R.port))by rintro⟨-,g|g|g|g⟩;cases g;exact g e1n;exact g e2n;exact e3 g)
       clear e0 e1 e2 e1n e2n;go_wp2_with fail
       go_meet
       case rel=>exact⟨false,rfl,⟨fun g=>(by cases g),fun g=>absurd g HCC.out⟩,rfl⟩
     ·have e2':=Zh e2
      have HCC:=Za (show name=[]∧(false=true∨tl R.user≠[]∨tl R.pass≠[]∨0≤R.port)from⟨e0,Or.inr (Or.inr (Or.inl (Zck e2)))⟩);clear e0 e1 e2 e1n;go_wp2_with fail
      go_meet
      case rel=>exact⟨true,rfl,⟨fun _=>HCC.out,fun _=>rfl⟩,rfl⟩
    ·have e1':=Zh e1
     have HCC:=Za (show name=[]∧(false=true∨tl R.user≠[]∨tl R.pass≠[]∨0≤R.port)from⟨e0,Or.inr (Or.inl (Zck e1))⟩);clear e0 e1;go_wp2_with fail
     go_meet
     case rel=>exact⟨true,rfl,⟨fun _=>HCC.out,fun _=>rfl⟩,rfl⟩
   ·have HCC:=Za (show name=[]∧(true=true∨tl R.user≠[]∨tl R.pass≠[]∨0≤R.port)from⟨e0,Or.inl rfl⟩)
    clear e0;go_wp2_with fail
    go_meet
    case rel=>exact⟨true,rfl,⟨fun _=>HCC.out,fun _=>rfl⟩,rfl⟩
  ·have e0':((name.length:Int)==0)=false:=beq_eq_false_iff_ne.2 (fun e=>e0 (Xb (by omega)))
   have HCC:=Za e0;clear e0;go_wp2_with fail
   go_meet
   case rel=>exact⟨false,rfl,⟨fun g=>(by cases g),fun g=>absurd g.1 HCC.out⟩,rfl⟩
 case rest=>
  obtain⟨c,rfl,hc,rfl⟩:=hcut
  cases c
  ·have HD1:=Za (HD.out.trans (if_neg (fun g=>by cases hc.2 (HCV.out.1 g))))
   clear hc HD HCV;go_wp2_with fail
   refine(Zee _ name sp _ HV1.out (by have:=HLN.out;omega) HPN.out).mono ?_
   rintro e w4 ⟨t,rfl,ht,hn4⟩;have HT:=Za ht;have hN4:=HN3.out.then hn4;have hrl:rb<w4.heap.size:=(HB.out.on hN4).lt;clear ht hn4 c0 c1 c2 c3 c4 c5 c6 c7 c8 c9 c10 c11 c12;generalize hostOf name sp=y at *;obtain⟨is,tx,err⟩:=y;simp only at HD1 HT;go_upto_region 19 with fail;have HH:=Za (show HostC (w4.alloc (Obj.cells #[.bool is,.string t] 86)) w4.heap.size is t from heap_alloc_new w4 _);have HB4:=Za (HB.out.on (hN4.alloc (Obj.cells #[.bool is,.string t] 86)));have HR4:=Za (HR.out.on (hN4.alloc (Obj.cells #[.bool is,.string t] 86)));have HN4:=Za (hN4.alloc (Obj.cells #[.bool is,.string t] 86));clear hN4;obtain⟨hb,hhb⟩:∃hb,hb=w4.heap.size:=⟨_,rfl⟩;rw[←hhb]at HH hrl ⊢;generalize (w4.alloc (Obj.cells #[.bool is,.string t] 86))=w5 at *;clear hhb;obtain⟨hc0,hc1⟩:=HH.out.cells
   by_cases he:err=0
   ·subst he
    have HE:=Za (HD1.out.trans (if_neg (fun g=>g rfl)))
    clear HD1;obtain⟨c0,c1,c2,c3,c4,c5,c6,c7,c8,c9,c10,c11,c12⟩:=HB4.out.cells;have f3:=HB4.out.free 3;have f4:=HB4.out.free 4;obtain⟨hB5,hR5⟩:=RIs.setHost HB4.out HR4.out is t;have HB5:=Za hB5
    have HR5:=Za (show RIs _ _ { u with his:=is,htx:=tx } bs by rw[←HT.out];exact hR5)
    have HBT:=Za (show But rb w ((w5.setCell ⟨rb,3,none⟩ (.bool is)).setCell ⟨rb,4,none⟩ (.string t))from((But.nx HN4.out).set 3 _).set 4 _);clear hB5 hR5;go_wp2;go_ret;rw[HE.out];exact⟨rfl,⟨_,HB5.out,HR5.out⟩,HBT.out⟩
   ·have he1:(err != 0)=true:=bne_iff_ne.2 he
    have he2:(err==0)=false:=beq_eq_false_iff_ne.2 he;have HE:=Za (HD1.out.trans (if_pos he));clear HD1 he;go_wp2_with fail
    refine(ZgO err _).mono ?_
    rintro e w7 ⟨rfl,rfl⟩;go_wp2;go_ret;rw[HE.out];exact⟨rfl,⟨R,HB4.out,HR4.out⟩,But.nx HN4.out⟩
  ·have HE:=Za (HD.out.trans (if_pos (HCV.out.2 (hc.1 rfl))))
   clear hc HD HCV;go_wp2;go_ret;rw[HE.out];exact⟨rfl,⟨R,HB3.out,HR3.out⟩,But.nx HN3.out⟩
theorem ZtL(rb:Nat)(R:RR)(u:RU)(bs:LA)(v:Value)(p:LI)(ports:Bool)(w:World)(h:RB w rb R)(hr:RIs w R u bs)(hv:IntsAt w v p)(hl:p.length≤1000)(hp:∀c∈p,Pt c)(hf:u.sch≠Zs)(k:Nat)(hc:colon (cut p (Z0 u.sch)).1=(k:Int))(hk:k<(cut p (Z0 u.sch)).1.length):Calls Tryz.prog 96 #[.pointer (some ⟨rb,0,none⟩),v,.bool ports] w fun e w'=>e=.returned (.int .i64 (Zam u p ports).2)∧(∃R',RB w' rb R'∧RIs w' R' (Zam u p ports).1 bs)∧But rb w w':=by
 have HB:=Za h;have HR:=Za hr;have HF:=Za hr.fields;have HV:=Za hv
 have HPN:Hid (∀c∈(cut p (Z0 u.sch)).1,Pt c):=Za (fun c hc=>hp c (ZC (Or.inl hc)))
 have HLN:Hid ((cut p (Z0 u.sch)).1.length≤1000):=Za (by have:=(ZaP p (Z0 u.sch)).1;omega)
 have hz:=ZbB (tl R.sch)
 have HST:Hid (tl (Zn (tl R.sch)++(⟨#[63,35]⟩:BA))=Z0 u.sch):=Za (by unfold Z0;rw[←hr.usch,tl_append];rfl)
 have HSZ:Hid ((Zn (tl R.sch)++(⟨#[63,35]⟩:BA)).size≤maxLen):=Za (by rw[ByteArray.size_append];exact Ze (by show _+2≤_;omega))
 have c0:=h.cells.1
 have hfb:=neB (s:=R.sch) (l:=[102,105,108,101]) (by rw[hr.usch];exact hf)
 have HFF:=Za hf;clear hf
 have HNP:Hid ((cut p (Z0 u.sch)).1.length≤p.length):=Za (by have:=(ZaP p (Z0 u.sch)).1;omega)
 clear h hr hp hv
 go_enter Tryz.func96,Tryz.ntmps96
 go_wp2_with fail
 refine(Zv R.sch _).mono ?_
 rintro e w1 ⟨rfl,hn1⟩;have HN1:=Za hn1;have c01:=(HB.out.on hn1).cells.1;clear hn1 c0;go_wp2_with fail
 refine(ZbW R.sch _).mono ?_
 rintro e w2 ⟨rfl,hn2⟩;have HN2:=Za (HN1.out.then hn2);have c02:=(HB.out.on (HN1.out.then hn2)).cells.1;clear hn2 c01 HN1;go_wp2_with fail
 refine(Zbp _ p _ _ HSZ.out (HV.out.on HN2.out)).mono ?_
 rintro e w3 ⟨v1,v2,rfl,h1,-,hn3⟩;rw[HST.out]at h1 ⊢;have HN3:=Za (HN2.out.then hn3);have HV1:=Za h1;clear h1 hn3 c02 HN2 HST HSZ hz;generalize hnm:(cut p (Z0 u.sch)).1=name at *;generalize (cut p (Z0 u.sch)).2.2=ok at *;have HNM:=Za hnm;clear hnm;have HB3:=Za (HB.out.on HN3.out);have HR3:=Za (HR.out.on HN3.out);obtain⟨c0,c1,c2,c3,c4,c5,c6,c7,c8,c9,c10,c11,c12⟩:=HB3.out.cells
 have HDM:=Za (show Zam u p ports=Zda u p name ports by
  unfold Zam
  rw[if_neg HFF.out,HNM.out])
 have HSP:Hid (Zf u.sch=Zf (tl R.sch)):=Za (by rw[HF.out.1])
 generalize Zf (tl R.sch)=sp at *;go_wp2_with fail
 refine(Zgp _ name _ HV1.out).mono ?_
 rintro e w' ⟨rfl,rfl⟩;have HC:=Za hc;rw[hc];clear hc
 have hpk:k<p.length:=by have:=HNP.out;omega
 obtain⟨b,off,cap,rfl,hlc,hcap,hrow⟩:=HV1.out.open_ hk
 have HTK:=Za (ZcW hrow hlc hcap k (by omega))
 obtain⟨pb,poff,pcap,rfl,hplc,hpcap,hprow⟩:=(HV.out.on HN3.out).open_ hpk
 have HDR:=Za (Zhc hprow hplc hpcap (k+1) (by omega))
 unfold maxLen at hcap hpcap;clear hrow hprow;rcases Nat.eq_zero_or_pos k with h0|hpos
 ·have HE:=Za (show Zam u p ports=(u,0)by rw[HDM.out];unfold Zda;rw[HC.out,if_pos (Or.inl (by rw[h0];rfl))])
  have h0':((k:Int)==0)=true:=by rw[h0];rfl
  clear h0 HC;go_wp2;go_ret;rw[HE.out];exact⟨rfl,⟨R,HB3.out,HR3.out⟩,But.nx HN3.out⟩
 ·have h0':((k:Int)==0)=false:=beq_eq_false_iff_ne.2 (by omega)
  cases ports
  ·have HE:=Za (show Zam u p false=(u,0)by rw[HDM.out];unfold Zda;rw[HC.out,if_pos (Or.inr ⟨by omega,rfl⟩)])
   clear HC;go_wp2;go_ret;rw[HE.out];exact⟨rfl,⟨R,HB3.out,HR3.out⟩,But.nx HN3.out⟩
  ·have HD1:=Za (show Zam u p true=if(hostOf (name.take k) sp).2.2≠0 then(u,ZhP (hostOf (name.take k) sp).2.2)else(ZaE { u with his:=(hostOf (name.take k) sp).1,htx:=(hostOf (name.take k) sp).2.1 } (p.drop (k+1)),0)by
    rw[HDM.out];unfold Zda Zcg
    have c1:¬((k:Int)=0∨0<(k:Int)∧true=false):=by rintro(g|g);omega;cases g.2
    have c2:¬(name=[]∧(Zf u.sch=true∨u.user≠[]∨u.pass≠[]∨0≤u.port)):=by rintro⟨g,-⟩;rw[g]at hk;simp at hk
    have c3:0<(k:Int):=by omega
    rw[HC.out,if_neg c1,if_neg c2,if_pos c3,if_pos c3,HSP.out]
    rfl)
   have hnl:((name.length:Int)==0)=false:=beq_eq_false_iff_ne.2 (by omega)
   have HPT:Hid (∀c∈name.take k,Pt c):=Za (fun c hc=>HPN.out c (List.mem_of_mem_take hc))
   clear HC HDM;go_wp2_with fail
   refine(Zee _ (name.take k) sp _ HTK.out (by rw[Xa];omega) HPT.out).mono ?_
   rintro e w4 ⟨t,rfl,ht,hn4⟩;have HT:=Za ht;have hN4:=HN3.out.then hn4;have HN5':=Za (hn4.alloc (Obj.cells #[.bool (hostOf (name.take k) sp).1,.string t] 86));have hrl:rb<w4.heap.size:=(HB.out.on hN4).lt;clear ht hn4 c0 c1 c2 c3 c4 c5 c6 c7 c8 c9 c10 c11 c12;generalize hostOf (name.take k) sp=y at *;obtain⟨is,tx,err⟩:=y;simp only at HD1 HT;go_upto_region 19 with fail;have HH:=Za (show HostC (w4.alloc (Obj.cells #[.bool is,.string t] 86)) w4.heap.size is t from heap_alloc_new w4 _);have HB4:=Za (HB.out.on (hN4.alloc (Obj.cells #[.bool is,.string t] 86)));have HR4:=Za (HR.out.on (hN4.alloc (Obj.cells #[.bool is,.string t] 86)));have HN4:=Za (hN4.alloc (Obj.cells #[.bool is,.string t] 86));clear hN4;obtain⟨hb,hhb⟩:∃hb,hb=w4.heap.size:=⟨_,rfl⟩;rw[←hhb]at HH hrl ⊢;generalize (w4.alloc (Obj.cells #[.bool is,.string t] 86))=w5 at *;clear hhb;obtain⟨hc0,hc1⟩:=HH.out.cells
   by_cases he:err=0
   ·subst he
    have HE:=Za (HD1.out.trans (if_neg (fun g=>g rfl)))
    clear HD1;obtain⟨c0,c1,c2,c3,c4,c5,c6,c7,c8,c9,c10,c11,c12⟩:=HB4.out.cells;have f3:=HB4.out.free 3;have f4:=HB4.out.free 4;obtain⟨hB5,hR5⟩:=RIs.setHost HB4.out HR4.out is t;have HB5:=Za hB5
    have HR5:=Za (show RIs _ _ { u with his:=is,htx:=tx } bs by rw[←HT.out];exact hR5)
    have HBT:=Za (show But rb w ((w5.setCell ⟨rb,3,none⟩ (.bool is)).setCell ⟨rb,4,none⟩ (.string t))from((But.nx HN4.out).set 3 _).set 4 _);clear hB5 hR5;have HN35:=Za (show Nx w3 w5 from HN5'.out);have HK:=Za (show Kp 88 w3 ((w5.setCell ⟨rb,3,none⟩ (.bool is)).setCell ⟨rb,4,none⟩ (.string t))from But.kp (((But.nx HN35.out).set 3 _).set 4 _) HB3.out)
    have HD6:=Za (HDR.out.kp HK.out (by decide))
    go_upto_region 23 with fail;clear c0 c1 c2 c3 c4 c5 c6 c7 c8 c9 c10 c11 c12 f3 f4 hc0 hc1 HK;generalize ((w5.setCell ⟨rb,3,none⟩ (.bool is)).setCell ⟨rb,4,none⟩ (.string t))=w6 at *
    by_cases hck:pcap=k+1
    ·have hck':(pcap==k+1)=true:=beq_iff_eq.2 hck
     have HD7:=Za (show IntsAt w6 (.slice (some ⟨pb,poff,none⟩) (p.length-(k+1)) 0) (p.drop (k+1))by have h:=HD6.out;rw[if_pos hck,show pcap-(k+1)=0 by omega]at h;exact h)
     go_wp2_with fail
     refine(Zfd rb _ _ bs _ (p.drop (k+1)) _ HB5.out HR5.out HD7.out (by rw[Xe];omega)).mono ?_
     rintro e w7 ⟨rfl,hx,hbt⟩;have HX:=Za hx;have HBT7:=Za (HBT.out.then hbt);clear hx hbt;go_wp2;go_ret;rw[HE.out];exact⟨rfl,HX.out,HBT7.out⟩
    ·have HD7:=Za (show IntsAt w6 (.slice (some ⟨pb,poff+(k+1),none⟩) (p.length-(k+1)) (pcap-(k+1))) (p.drop (k+1))by have h:=HD6.out;rw[if_neg hck]at h;exact h)
     go_wp2_with fail
     refine(Zfd rb _ _ bs _ (p.drop (k+1)) _ HB5.out HR5.out HD7.out (by rw[Xe];omega)).mono ?_
     rintro e w7 ⟨rfl,hx,hbt⟩;have HX:=Za hx;have HBT7:=Za (HBT.out.then hbt);clear hx hbt;go_wp2;go_ret;rw[HE.out];exact⟨rfl,HX.out,HBT7.out⟩
   ·have he1:(err != 0)=true:=bne_iff_ne.2 he
    have he2:(err==0)=false:=beq_eq_false_iff_ne.2 he;have HE:=Za (HD1.out.trans (if_pos he));clear HD1 he;go_wp2_with fail
    refine(ZgO err _).mono ?_
    rintro e w7 ⟨rfl,rfl⟩;go_wp2;go_ret;rw[HE.out];exact⟨rfl,⟨R,HB4.out,HR4.out⟩,But.nx HN4.out⟩
theorem Zkk(rb:Nat)(R:RR)(u:RU)(bs:LA)(v:Value)(p:LI)(ports:Bool)(w:World)(h:RB w rb R)(hr:RIs w R u bs)(hv:IntsAt w v p)(hl:p.length≤1000)(hp:∀c∈p,Pt c):Calls Tryz.prog 96 #[.pointer (some ⟨rb,0,none⟩),v,.bool ports] w fun e w'=>e=.returned (.int .i64 (Zam u p ports).2)∧(∃R',RB w' rb R'∧RIs w' R' (Zam u p ports).1 bs)∧But rb w w':=by
 by_cases hf:u.sch=Zs
 ·exact Zn6 rb R u bs v p ports w h hr hv hl hp hf
 ·rcases ZgE (cut p (Z0 u.sch)).1 with hc|⟨k,hc,hk⟩
  ·exact Zn7 rb R u bs v p ports w h hr hv hl hp hf hc
  ·exact ZtL rb R u bs v p ports w h hr hv hl hp hf k hc hk
theorem ZxX(ub rb:Nat)(v0:Value)(R:RR)(m:RU)(bs:LA)(ps:List Pq)(s:BA)(w:World)(hu:URB w ub rb v0)(h:RB w rb R)(hr:RIs w R m bs)(hpl:PlAt w v0 ps)(hs:s.size≤160):Calls Tryz.prog 72 #[.pointer (some ⟨ub,0,none⟩),.int .i64 5,.string s] w fun e w'=>ZxM e w w' ub rb (Zjf m 5 (tl s)) (Za6 m 5 (tl s) (ps.map tl2)):=by
 have HU:=Za hu;have HB:=Za h;have HR:=Za hr;have HPL:=Za hpl;have HBA:=Za hr.bare;have a0:=hu.cells.1;clear hu h hr hpl
 go_enter Tryz.func72,Tryz.ntmps72
 go_wp2_with fail
 refine(Zcj s _ (by unfold maxLen;omega)).mono ?_
 rintro e w' ⟨rfl,rfl⟩
 rw[decide_eq_false (show ¬160<s.size by omega)]
 go_wp2_with fail
 refine(Zaw s _ (by omega)).mono ?_
 rintro e w1 ⟨pv,rfl,h1,hn1⟩;have HPV:=Za h1;have HN1:=Za hn1;have hlen:=Zax (tl s);rw[tl_length]at hlen;obtain⟨c0,c1,c2,c3,c4,c5,c6,c7,c8,c9,c10,c11,c12⟩:=(HB.out.on hn1).cells;clear h1 hn1 a0;go_upto_region 6 with fail
 go_cut [10]from 11 (fun b wx=>∃c:Bool,b=.bool c∧(c=true↔ZeL m)∧wx=w1)
 case first=>
  by_cases e1:R.htx.size=0
  ·have e1':=Zl e1
   have HC:=Za (HBA.out.2 (Or.inl (Zga e1)));clear e1;go_wp2_with fail
   go_meet
   case rel=>exact⟨true,rfl,⟨fun _=>HC.out,fun _=>rfl⟩,rfl⟩
  ·have e1':=Zh e1
   by_cases e2:tl R.sch=Zs
   ·have e2':=eqB (s:=R.sch) (l:=[102,105,108,101]) e2
    have HC:=Za (HBA.out.2 (Or.inr e2));clear e1 e2;go_wp2_with fail
    go_meet
    case rel=>exact⟨true,rfl,⟨fun _=>HC.out,fun _=>rfl⟩,rfl⟩
   ·have e2':=neB (s:=R.sch) (l:=[102,105,108,101]) e2
    have HC:=Za (show ¬ZeL m from fun g=>by
     rcases HBA.out.1 g with g|g
     ·exact Zck e1 g
     ·exact e2 g)
    clear e1 e2;go_wp2_with fail
    go_meet
    case rel=>exact⟨false,rfl,⟨fun g=>(by cases g),fun g=>absurd g HC.out⟩,rfl⟩
 case rest=>
  obtain⟨c,rfl,hc,rfl⟩:=hcut;clear HBA c0 c1 c2 c3 c4 c5 c6 c7 c8 c9 c10 c11 c12;have HC:=Za hc;clear hc
  have HE:=Za (show Zjf m 5 (tl s)=if m.op=true then(m,0)else Zam m (flat (Zk (tl s))) true from rfl)
  have HY:=Za (show Za6 m 5 (tl s) (ps.map tl2)=ps.map tl2 from rfl);have HB1:=Za (HB.out.on HN1.out);have HR1:=Za (HR.out.on HN1.out);have HOP:=Za HR.out.fields.2.2.2.2.2.2;have c7:=HB1.out.cells.2.2.2.2.2.2.2.1;clear HC;generalize hop:R.op=op at *
  cases op
  ·have HX:=Za (HE.out.trans (if_neg (by rw[HOP.out];decide)))
   have hfl:=Zen (Zk (tl s));clear HE hop;go_wp2_with fail
   refine(ZdD _ (Zk (tl s)) _ HPV.out (by omega)).mono ?_
   rintro e w2 ⟨v2,rfl,h2,hn2⟩;have H2:=Za h2;have HN2:=Za (HN1.out.then hn2);have HB2:=Za (HB1.out.on hn2);have HR2:=Za (HR1.out.on hn2);clear h2 hn2 c7;go_wp2_with fail
   refine(Zkk rb R m bs _ (flat (Zk (tl s))) true _ HB2.out HR2.out H2.out (by omega) (fun c hc=>ZcI _ c (Xg.1 hc).1)).mono ?_
   rintro e w3 ⟨rfl,hx,hbt⟩;have HRX:=Za hx;have HBT:=Za hbt;clear hx hbt;go_wp2;go_ret;rw[HX.out,HY.out];obtain⟨R',k1,k2⟩:=HRX.out;have hkp:=HBT.out.kp HB2.out
   exact⟨rfl,⟨rb,R',bs,v0,ps,(HU.out.on HN2.out).but HBT.out ((HU.out.on HN2.out).ne HB2.out),k1,k2,(HPL.out.on HN2.out).kp hkp (by decide),rfl,Or.inl rfl⟩,Two.r ((But.nx HN2.out).then HBT.out)⟩
  ·have HX:=Za (HE.out.trans (if_pos HOP.out))
   clear HE hop;go_wp2;go_ret;rw[HX.out,HY.out];exact⟨rfl,⟨rb,R,bs,v0,ps,HU.out.on HN1.out,HB1.out,HR1.out,HPL.out.on HN1.out,rfl,Or.inl rfl⟩,Two.nx HN1.out⟩
theorem ZxY(ub rb:Nat)(v0:Value)(R:RR)(m:RU)(bs:LA)(ps:List Pq)(s:BA)(w:World)(hu:URB w ub rb v0)(h:RB w rb R)(hr:RIs w R m bs)(hpl:PlAt w v0 ps)(hs:s.size≤160):Calls Tryz.prog 72 #[.pointer (some ⟨ub,0,none⟩),.int .i64 6,.string s] w fun e w'=>ZxM e w w' ub rb (Zjf m 6 (tl s)) (Za6 m 6 (tl s) (ps.map tl2)):=by
 have HU:=Za hu;have HB:=Za h;have HR:=Za hr;have HPL:=Za hpl;have HBA:=Za hr.bare;have a0:=hu.cells.1;clear hu h hr hpl
 go_enter Tryz.func72,Tryz.ntmps72
 go_wp2_with fail
 refine(Zcj s _ (by unfold maxLen;omega)).mono ?_
 rintro e w' ⟨rfl,rfl⟩
 rw[decide_eq_false (show ¬160<s.size by omega)]
 go_wp2_with fail
 refine(Zaw s _ (by omega)).mono ?_
 rintro e w1 ⟨pv,rfl,h1,hn1⟩;have HPV:=Za h1;have HN1:=Za hn1;have hlen:=Zax (tl s);rw[tl_length]at hlen;obtain⟨c0,c1,c2,c3,c4,c5,c6,c7,c8,c9,c10,c11,c12⟩:=(HB.out.on hn1).cells;clear h1 hn1 a0;go_upto_region 6 with fail
 go_cut [10]from 11 (fun b wx=>∃c:Bool,b=.bool c∧(c=true↔ZeL m)∧wx=w1)
 case first=>
  by_cases e1:R.htx.size=0
  ·have e1':=Zl e1
   have HC:=Za (HBA.out.2 (Or.inl (Zga e1)));clear e1;go_wp2_with fail
   go_meet
   case rel=>exact⟨true,rfl,⟨fun _=>HC.out,fun _=>rfl⟩,rfl⟩
  ·have e1':=Zh e1
   by_cases e2:tl R.sch=Zs
   ·have e2':=eqB (s:=R.sch) (l:=[102,105,108,101]) e2
    have HC:=Za (HBA.out.2 (Or.inr e2));clear e1 e2;go_wp2_with fail
    go_meet
    case rel=>exact⟨true,rfl,⟨fun _=>HC.out,fun _=>rfl⟩,rfl⟩
   ·have e2':=neB (s:=R.sch) (l:=[102,105,108,101]) e2
    have HC:=Za (show ¬ZeL m from fun g=>by
     rcases HBA.out.1 g with g|g
     ·exact Zck e1 g
     ·exact e2 g)
    clear e1 e2;go_wp2_with fail
    go_meet
    case rel=>exact⟨false,rfl,⟨fun g=>(by cases g),fun g=>absurd g HC.out⟩,rfl⟩
 case rest=>
  obtain⟨c,rfl,hc,rfl⟩:=hcut;clear HBA c0 c1 c2 c3 c4 c5 c6 c7 c8 c9 c10 c11 c12;have HC:=Za hc;clear hc
  have HE:=Za (show Zjf m 6 (tl s)=if m.op=true then(m,0)else Zam m (flat (Zk (tl s))) false from rfl)
  have HY:=Za (show Za6 m 6 (tl s) (ps.map tl2)=ps.map tl2 from rfl);have HB1:=Za (HB.out.on HN1.out);have HR1:=Za (HR.out.on HN1.out);have HOP:=Za HR.out.fields.2.2.2.2.2.2;have c7:=HB1.out.cells.2.2.2.2.2.2.2.1;clear HC;generalize hop:R.op=op at *
  cases op
  ·have HX:=Za (HE.out.trans (if_neg (by rw[HOP.out];decide)))
   have hfl:=Zen (Zk (tl s));clear HE hop;go_wp2_with fail
   refine(ZdD _ (Zk (tl s)) _ HPV.out (by omega)).mono ?_
   rintro e w2 ⟨v2,rfl,h2,hn2⟩;have H2:=Za h2;have HN2:=Za (HN1.out.then hn2);have HB2:=Za (HB1.out.on hn2);have HR2:=Za (HR1.out.on hn2);clear h2 hn2 c7;go_wp2_with fail
   refine(Zkk rb R m bs _ (flat (Zk (tl s))) false _ HB2.out HR2.out H2.out (by omega) (fun c hc=>ZcI _ c (Xg.1 hc).1)).mono ?_
   rintro e w3 ⟨rfl,hx,hbt⟩;have HRX:=Za hx;have HBT:=Za hbt;clear hx hbt;go_wp2;go_ret;rw[HX.out,HY.out];obtain⟨R',k1,k2⟩:=HRX.out;have hkp:=HBT.out.kp HB2.out
   exact⟨rfl,⟨rb,R',bs,v0,ps,(HU.out.on HN2.out).but HBT.out ((HU.out.on HN2.out).ne HB2.out),k1,k2,(HPL.out.on HN2.out).kp hkp (by decide),rfl,Or.inl rfl⟩,Two.r ((But.nx HN2.out).then HBT.out)⟩
  ·have HX:=Za (HE.out.trans (if_pos HOP.out))
   clear HE hop;go_wp2;go_ret;rw[HX.out,HY.out];exact⟨rfl,⟨rb,R,bs,v0,ps,HU.out.on HN1.out,HB1.out,HR1.out,HPL.out.on HN1.out,rfl,Or.inl rfl⟩,Two.nx HN1.out⟩
end Go.Proofs.YtchkhibgbnhjpaaGreatDoor
