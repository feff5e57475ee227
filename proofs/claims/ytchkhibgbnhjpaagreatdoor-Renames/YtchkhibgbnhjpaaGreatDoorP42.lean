import Derived.Test.YtchkhibgbnhjpaaGreatDoorP41
namespace Go.Proofs.YtchkhibgbnhjpaaGreatDoor
open Go.RowKit
set_option maxHeartbeats 8000000
set_option maxRecDepth 8000
theorem URB.s0{w:World}{ub rb:Nat}{v:Value}(h:URB w ub rb v)(qb:Nat):URB (w.setCell ⟨ub,0,none⟩ (.pointer (some ⟨qb,0,none⟩))) ub qb v:=by
 unfold URB at *;simp only[World.setCell,Array.getElem?_modify,if_pos,h]
 rfl
theorem ZvG(v:Value)(l:LI)(w:World)(hv:IntsAt w v l)(hn:l.length≤1000000):Calls Tryz.prog 95 #[v] w fun e w'=>∃v',e=.returned v'∧OwnI w' w.heap.size v' (flat l)∧Nx w w':=by
 obtain⟨ao,cap,rfl,hlc,hcap,hnone,hsome⟩:=hv;unfold maxLen at hcap
 go_enter Tryz.func95,Tryz.ntmps95
 go_wp2
 go_loopw [3,4] (fun o i wr=>∃k:Nat,k≤l.length∧i=.int .i64 k∧OwnI wr w.heap.size o (flat (l.take k))∧Nx w wr) (fun _ i _=>l.length-(intOf i).toNat)
 case atStart=>exact⟨0,Nat.zero_le _,rfl,World.ownsRow_nil _ _ _ _,Nx.rfl⟩
 case round=>
  obtain⟨k,hk,rfl,hown,hnx⟩:=hrel
  by_cases hlt:k<l.length
  ·obtain⟨a,ha⟩:=ZT hlt hnone
   subst ha;obtain⟨b,off,rfl,hr⟩:=hsome a rfl;have hck:=(hr.on hnx).cell hlt
   have hsz:(flat (l.take k)).length<1099511627776:=by have:=Zen (l.take k);have:=List.length_take_le k l;omega
   have hz:=hnx.size;have HTK:=Za ((congrArg flat (Zaa l k hlt)).trans (Zlg (l.take k) l[k]));have HO:=Za hown;have HN:=Za hnx;clear hnone hsome hr hown hnx
   go_wp2_with (first|(go_at_call 127;refine(Za3 _ _ _ (Ze (by decide))).mono ?_;rintro e w' ⟨rfl,rfl⟩)|(at_builtin;refine ZbT wr l[k] rfl _ _ rfl w.heap.size _ _ rfl HO.out rfl hsz hz ?_;intro v' w1 ho1 hb1 _;have HO1:=Za ho1;clear ho1))
   ·go_roundw
    case rel=>exact⟨k+1,by omega,by go_num,by rw[HTK.out,if_neg (by simpa using ‹(!among _ _)=true›)];exact HO1.out,HN.out.trans hb1⟩
    case measure=>simp[intOf];omega
   ·go_roundw
    case rel=>exact⟨k+1,by omega,by go_num,by rw[HTK.out,if_pos (by simpa using ‹(!among _ _)=false›),List.append_nil];exact HO.out,HN.out⟩
    case measure=>simp[intOf];omega
  ·go_wp2
   go_ret
   rw[List.take_of_length_le (by omega)]at hown
   exact⟨_,rfl,hown,hnx⟩
theorem Zxc(l:LI):(schemeOf l).1.length≤4*l.length:=by
 unfold schemeOf
 split
 ·show(lower (Zc (cut l [58]).1)).length≤_
  rw[Zim];have h1:=Za9 (cut l [58]).1;have h2:=ZaP l [58]
  omega
 ·exact Nat.zero_le _
theorem ZqX(rb:Nat)(R:RR)(u:RU)(bs:LA)(v:Value)(l:LI)(w:World)(h:RB w rb R)(hr:RIs w R u bs)(hv:IntsAt w v l)(hl:l.length≤1000)(hp:∀c∈l,Pt c):Calls Tryz.prog 93 #[.pointer (some ⟨rb,0,none⟩),v] w fun e w'=>e=.returned (.tuple #[])∧(∃R',RB w' rb R'∧RIs w' R' (Zfb u l) bs)∧But rb w w':=by
 have HB:=Za h;have HR:=Za hr;have HF:=Za hr.fields
 have HD:=Za (show Zfb u l=if(schemeOf (flat l++[58])).2.2=false∨Zf (schemeOf (flat l++[58])).1≠Zf u.sch then u
  else if(schemeOf (flat l++[58])).1=Zs∧(u.user≠[]∨u.pass≠[]∨0≤u.port)then u
  else if u.sch=Zs∧u.his=true∧u.htx=[]then u
  else { u with sch:=(schemeOf (flat l++[58])).1,port:=Zjd (schemeOf (flat l++[58])).1 u.port }from rfl)
 have HPP:Hid (∀c∈flat l++[58],Pt c):=Za (fun c hc=>by
  rcases List.mem_append.1 hc with hc|hc
  ·exact hp c (List.mem_filter.1 hc).1
  ·rw[List.mem_singleton]at hc;subst hc;exact⟨by decide,by decide⟩)
 have hfl:=Zen l;clear h hr hp
 go_enter Tryz.func93,Tryz.ntmps93
 go_wp2_with fail
 refine(ZvG _ l _ hv (by omega)).mono ?_
 rintro e w1 ⟨v1,rfl,ho,hn1⟩;have HO:=Za ho;have HN1:=Za hn1;have hz:=hn1.size;clear ho hn1 hv
 have hsz:(flat l).length<1099511627776:=by omega
 go_wp2_with (at_builtin;go_must (refine ZbT w1 58 rfl _ _ rfl w.heap.size _ _ rfl HO.out rfl hsz hz ?_;intro v2 w2 ho2 hb2 _;have HO2:=Za ho2;have HN2:=Za (show Nx w w2 from Below.trans HN1.out hb2);clear ho2 hb2))
 have hpl:(flat l++[58]).length≤1001:=by rw[List.length_append];simp;omega
 have HSL:=Za (Zxc (flat l++[58]));generalize flat l++[58]=p at *
 refine(Zb1 _ p _ (OwnI.ints HO2.out) (by omega) HPP.out).mono ?_
 rintro e w3 ⟨sc,v3,rfl,hsc,-,hn3⟩;have HN3:=Za (HN2.out.then hn3);clear hn3 HO HN1 HO2 HN2 HPP hz hsz hfl;have HSC:=Za hsc
 have HSZ:Hid (sc.size≤1000000):=Za (by have:=HSL.out;rw[←hsc,tl_length]at this;omega)
 rw[←hsc]at HD;clear hsc HSL;generalize (schemeOf p).2.2=ok at *;go_wp2_with fail
 refine(Zv sc _).mono ?_
 rintro e w4 ⟨rfl,hn4⟩;have HN4:=Za (HN3.out.then hn4);have c0:=(HB.out.on (HN3.out.then hn4)).cells.1;clear hn4 HN3;go_wp2_with fail
 refine(Zv R.sch _).mono ?_
 rintro e w5 ⟨rfl,hn5⟩;have HN5:=Za (HN4.out.then hn5);clear hn5 HN4 c0;rw[HF.out.1]at HD;have HB5:=Za (HB.out.on HN5.out);have HR5:=Za (HR.out.on HN5.out);obtain⟨c0,c1,c2,c3,c4,c5,c6,c7,c8,c9,c10,c11,c12⟩:=HB5.out.cells;have f0:=HB5.out.free 0
 have HNO:Hid (Zfb u l=u→(∃R',RB w5 rb R'∧RIs w5 R' (Zfb u l) bs)∧But rb w w5):=Za (fun g=>⟨⟨R,HB5.out,by rw[g];exact HR5.out⟩,But.nx HN5.out⟩)
 generalize hsp1:Zf (tl sc)=b1 at *;generalize hsp2:Zf (tl R.sch)=b2 at *
 cases ok
 ·have HE:=Za (HD.out.trans (if_pos (Or.inl rfl)))
  clear HD hsp1 hsp2;go_wp2;exact bodyPost_ret (results_none rfl _ _ _) rfl ⟨rfl,HNO.out HE.out⟩
 by_cases hbb:b1=b2
 ·have hbb':(!(b1==b2))=false:=by rw[hbb];simp
  have HD2:=Za (HD.out.trans (if_neg (by rintro(g|g);cases g;exact g hbb)))
  have HCV:=Za (show(tl sc=Zs∧(u.user≠[]∨u.pass≠[]∨0≤u.port))↔(tl sc=Zs∧(tl R.user≠[]∨tl R.pass≠[]∨0≤R.port))by rw[HF.out.2.1,HF.out.2.2.1,HF.out.2.2.2.2.2.1])
  have HCW:=Za (show(tl R.sch=Zs∧u.his=true∧u.htx=[])↔(tl R.sch=Zs∧R.his=true∧tl R.htx=[])by rw[HF.out.2.2.2.1,HF.out.2.2.2.2.1])
  have HFI:=Za HF.out;clear HD hbb hsp1 hsp2;go_upto_region 6 with fail
  go_cut [56]from 57 (fun b wx=>∃c:Bool,b=.bool c∧(c=true↔(tl sc=Zs∧(tl R.user≠[]∨tl R.pass≠[]∨0≤R.port)))∧w5=wx)
  case first=>
   by_cases e0:tl sc=Zs
   ·have e0':=eqB (s:=sc) (l:=[102,105,108,101]) e0
    by_cases e1:R.user.size=0
    ·have e1':=Zl e1
     have e1n:=Zga e1
     by_cases e2:R.pass.size=0
     ·have e2':=Zl e2
      have e2n:=Zga e2
      by_cases e3:0≤R.port
      ·have HC:=Za (show tl sc=Zs∧(tl R.user≠[]∨tl R.pass≠[]∨0≤R.port)from⟨e0,Or.inr (Or.inr e3)⟩)
       clear e0 e1 e2 e1n e2n HFI;go_wp2_with fail
       go_meet
       case rel=>exact⟨true,rfl,⟨fun _=>HC.out,fun _=>rfl⟩,rfl⟩
      ·have HC:=Za (show ¬(tl sc=Zs∧(tl R.user≠[]∨tl R.pass≠[]∨0≤R.port))by rintro⟨-,g|g|g⟩;exact g e1n;exact g e2n;exact e3 g)
       clear e0 e1 e2 e1n e2n HFI;go_wp2_with fail
       go_meet
       case rel=>exact⟨false,rfl,⟨fun g=>(by cases g),fun g=>absurd g HC.out⟩,rfl⟩
     ·have e2':=Zh e2
      have HC:=Za (show tl sc=Zs∧(tl R.user≠[]∨tl R.pass≠[]∨0≤R.port)from⟨e0,Or.inr (Or.inl (Zck e2))⟩);clear e0 e1 e2 e1n HFI;go_wp2_with fail
      go_meet
      case rel=>exact⟨true,rfl,⟨fun _=>HC.out,fun _=>rfl⟩,rfl⟩
    ·have e1':=Zh e1
     have HC:=Za (show tl sc=Zs∧(tl R.user≠[]∨tl R.pass≠[]∨0≤R.port)from⟨e0,Or.inl (Zck e1)⟩);clear e0 e1 HFI;go_wp2_with fail
     go_meet
     case rel=>exact⟨true,rfl,⟨fun _=>HC.out,fun _=>rfl⟩,rfl⟩
   ·have e0':=neB (s:=sc) (l:=[102,105,108,101]) e0
    have HC:=Za e0;clear e0 HFI;go_wp2_with fail
    go_meet
    case rel=>exact⟨false,rfl,⟨fun g=>(by cases g),fun g=>absurd g.1 HC.out⟩,rfl⟩
  case rest=>
   obtain⟨c,rfl,hc,rfl⟩:=hcut
   cases c
   ·have HD3:=Za (HD2.out.trans (if_neg (fun g=>by cases hc.2 (HCV.out.1 g))))
    clear hc HD2;go_upto_region 7 with fail
    go_cut [76]from 77 (fun b wx=>∃c:Bool,b=.bool c∧(c=true↔(tl R.sch=Zs∧R.his=true∧tl R.htx=[]))∧w5=wx)
    case first=>
     by_cases e0:tl R.sch=Zs
     ·have e0':=eqB (s:=R.sch) (l:=[102,105,108,101]) e0
      generalize hhs:R.his=his at *
      cases his
      ·clear e0 HFI
       go_wp2_with fail
       go_meet
       case rel=>exact⟨false,rfl,⟨fun g=>(by cases g),fun g=>(by cases g.2.1)⟩,rfl⟩
      ·by_cases e1:R.htx.size=0
       ·have e1':=Zl e1
        have HC:=Za (show tl R.sch=Zs∧true=true∧tl R.htx=[]from⟨e0,rfl,Zga e1⟩);clear e0 e1 HFI;go_wp2_with fail
        go_meet
        case rel=>exact⟨true,rfl,⟨fun _=>HC.out,fun _=>rfl⟩,rfl⟩
       ·have e1':=Zh e1
        have HC:=Za (Zck e1);clear e0 e1 HFI;go_wp2_with fail
        go_meet
        case rel=>exact⟨false,rfl,⟨fun g=>(by cases g),fun g=>absurd g.2.2 HC.out⟩,rfl⟩
     ·have e0':=neB (s:=R.sch) (l:=[102,105,108,101]) e0
      have HC:=Za e0;clear e0 HFI;go_wp2_with fail
      go_meet
      case rel=>exact⟨false,rfl,⟨fun g=>(by cases g),fun g=>absurd g.1 HC.out⟩,rfl⟩
    case rest=>
     obtain⟨c,rfl,hc,rfl⟩:=hcut
     cases c
     ·have HE:=Za (HD3.out.trans (if_neg (fun g=>by cases hc.2 (HCW.out.1 g))))
      clear hc HD3 HFI;go_upto_region 9 with fail;have HB6:=Za (HB5.out.s0 sc);have HBT6:Hid (But rb w5 (w5.setCell ⟨rb,0,none⟩ (.string sc))):=Za ((But.refl rb w5).set 0 _)
      have HR6:=Za (show RIs (w5.setCell ⟨rb,0,none⟩ (.string sc)) { R with sch:=sc } { u with sch:=tl sc } bs from { HR5.out.kp (HBT6.out.kp HB5.out)with eq:=(by rw[←HR5.out.eq];rfl),lsch:=HSZ.out })
      clear c0 c1 c2 c3 c4 c5 c6 c7 c8 c9 c10 c11 c12 f0;generalize w5.setCell ⟨rb,0,none⟩ (.string sc)=w6 at *;have c5:=HB6.out.cells.2.2.2.2.2.1;go_wp2_with fail
      refine(Zh3 rb { R with sch:=sc } R.port _ HB6.out).mono ?_
      rintro e w7 ⟨rfl,hn7⟩;have HB7:=Za (HB6.out.on hn7);have HR7:=Za (HR6.out.on hn7);have HBT7:=Za (HBT6.out.then (But.nx hn7));have c5':=HB7.out.cells.2.2.2.2.2.1;have f5:=HB7.out.free 5;clear hn7 c5;go_wp2;obtain⟨k1,k2⟩:=RIs.setPort HB7.out HR7.out (Zjd (tl sc) R.port)
      refine bodyPost_end (results_none rfl _ _ _) rfl ⟨rfl,⟨_,k1,?_⟩,((But.nx HN5.out).then HBT7.out).set 5 _⟩
      rw[HE.out,HF.out.2.2.2.2.2.1];exact k2
     ·have HE:=Za (HD3.out.trans (if_pos (HCW.out.2 (hc.1 rfl))))
      clear hc HD3 HFI;go_wp2;exact bodyPost_ret (results_none rfl _ _ _) rfl ⟨rfl,HNO.out HE.out⟩
   ·have HE:=Za (HD2.out.trans (if_pos (HCV.out.2 (hc.1 rfl))))
    clear hc HD2 HFI;go_wp2;exact bodyPost_ret (results_none rfl _ _ _) rfl ⟨rfl,HNO.out HE.out⟩
 ·have hbb':(!(b1==b2))=true:=by rw[beq_eq_false_iff_ne.2 hbb];rfl
  have HE:=Za (HD.out.trans (if_pos (Or.inr hbb)));clear HD hbb hsp1 hsp2;go_wp2;exact bodyPost_ret (results_none rfl _ _ _) rfl ⟨rfl,HNO.out HE.out⟩
theorem ZxV(ub rb:Nat)(v0:Value)(R:RR)(m:RU)(bs:LA)(ps:List Pq)(s:BA)(w:World)(hu:URB w ub rb v0)(h:RB w rb R)(hr:RIs w R m bs)(hpl:PlAt w v0 ps)(hs:s.size≤160):Calls Tryz.prog 72 #[.pointer (some ⟨ub,0,none⟩),.int .i64 2,.string s] w fun e w'=>ZxM e w w' ub rb (Zjf m 2 (tl s)) (Za6 m 2 (tl s) (ps.map tl2)):=by
 have HU:=Za hu;have HB:=Za h;have HR:=Za hr;have HPL:=Za hpl;have HBA:=Za hr.bare;have a0:=hu.cells.1;clear hu h hr hpl
 go_enter Tryz.func72,Tryz.ntmps72
 go_wp2_with fail
 refine(Zcj s _ (by unfold maxLen;omega)).mono ?_
 rintro e w' ⟨rfl,rfl⟩
 rw[decide_eq_false (show ¬160<s.size by omega)]
 go_wp2_with fail
 refine(Zaw s _ (by omega)).mono ?_
 rintro e w1 ⟨pv,rfl,h1,hn1⟩;have HPV:=Za h1;have HN1:=Za hn1;have hlen:=Zax (tl s);rw[tl_length]at hlen;obtain⟨c0,c1,c2,c3,c4,c5,c6,c7,c8,c9,c10,c11,c12⟩:=(HB.out.on hn1).cells;clear h1 hn1 a0;go_upto_region 6 with fail
 go_cut [10]from 11 (fun b wx=>∃c:Bool,b=.bool c∧(c=true↔ZeL m)∧wx=w1)
 case first=>
  by_cases e1:R.htx.size=0
  ·have e1':=Zl e1
   have HC:=Za (HBA.out.2 (Or.inl (Zga e1)));clear e1;go_wp2_with fail
   go_meet
   case rel=>exact⟨true,rfl,⟨fun _=>HC.out,fun _=>rfl⟩,rfl⟩
  ·have e1':=Zh e1
   by_cases e2:tl R.sch=Zs
   ·have e2':=eqB (s:=R.sch) (l:=[102,105,108,101]) e2
    have HC:=Za (HBA.out.2 (Or.inr e2));clear e1 e2;go_wp2_with fail
    go_meet
    case rel=>exact⟨true,rfl,⟨fun _=>HC.out,fun _=>rfl⟩,rfl⟩
   ·have e2':=neB (s:=R.sch) (l:=[102,105,108,101]) e2
    have HC:=Za (show ¬ZeL m from fun g=>by
     rcases HBA.out.1 g with g|g
     ·exact Zck e1 g
     ·exact e2 g)
    clear e1 e2;go_wp2_with fail
    go_meet
    case rel=>exact⟨false,rfl,⟨fun g=>(by cases g),fun g=>absurd g HC.out⟩,rfl⟩
 case rest=>
  obtain⟨c,rfl,hc,rfl⟩:=hcut;clear HBA c0 c1 c2 c3 c4 c5 c6 c7 c8 c9 c10 c11 c12;have HC:=Za hc;clear hc;have HX:=Za (show Zjf m 2 (tl s)=(Zfb m (Zk (tl s)),0)from rfl);have HY:=Za (show Za6 m 2 (tl s) (ps.map tl2)=ps.map tl2 from rfl);clear HC;go_wp2_with fail
  refine(ZqX rb R m bs _ (Zk (tl s)) _ (HB.out.on HN1.out) (HR.out.on HN1.out) HPV.out (by omega) (ZcI _)).mono ?_
  rintro e w2 ⟨rfl,hx,hbt⟩;have HRX:=Za hx;have HBT:=Za hbt;clear hx hbt;go_wp2;go_ret;rw[HX.out,HY.out];obtain⟨R',k1,k2⟩:=HRX.out;have hkp:=HBT.out.kp (HB.out.on HN1.out)
  exact⟨rfl,⟨rb,R',bs,v0,ps,(HU.out.on HN1.out).but HBT.out ((HU.out.on HN1.out).ne (HB.out.on HN1.out)),k1,k2,(HPL.out.on HN1.out).kp hkp (by decide),rfl,Or.inl rfl⟩,Two.r ((But.nx HN1.out).then HBT.out)⟩
end Go.Proofs.YtchkhibgbnhjpaaGreatDoor
