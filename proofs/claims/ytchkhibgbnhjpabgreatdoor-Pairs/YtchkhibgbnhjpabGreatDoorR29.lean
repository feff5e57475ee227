import Derived.Test.YtchkhibgbnhjpabGreatDoorR28
open List renaming dropWhile_sublist→Xa,length_reverse→Xd,mem_reverse→Xe
open Nat renaming le_refl→Xb,le_trans→Xc
namespace Go.Proofs.YtchkhibgbnhjpabGreatDoor
open Go.RowKit
set_option maxHeartbeats 8000000
set_option maxRecDepth 8000
def zeroR:RU:=⟨[],[],[],false,[],-1,[],false,[],false,[],false,[]⟩
def Zj9:RR:=⟨⟨#[]⟩,⟨#[]⟩,⟨#[]⟩,false,⟨#[]⟩,-1,none,0,0,false,⟨#[]⟩,false,⟨#[]⟩,false,⟨#[]⟩⟩
theorem ZtG(w:World):RB (w.alloc (Obj.cells #[.string ⟨#[]⟩,.string ⟨#[]⟩,.string ⟨#[]⟩,.bool false,.string ⟨#[]⟩,.int .i64 (-1),.slice none 0 0,.bool false,.string ⟨#[]⟩,.bool false,.string ⟨#[]⟩,.bool false,.string ⟨#[]⟩] 130)) w.heap.size Zj9:=heap_alloc_new w _
theorem Zws(w:World):RIs w Zj9 zeroR []:=⟨rfl,SlAt.nil w,by decide,by decide,fun b hb=>by cases hb⟩
def ZdF(l:List UInt8):List Int:=flat (trimmed (Zk l))
def Zlf:List UInt8:=[32,34,60,62,96]
def queried(x:RU×Int)(hq:Bool)(query:List Int):RU×Int:=if hq=true then({ x.1 with q:=encoded query (tl (Zvd (Zg x.1.sch))) },x.2)else x
def Zka(u:RU)(l:List Int)(b:RU):RU×Int:=if u.sch=ZO then Zgq u l (ZmB (some b))else Zgr u l b
def Zkb(sch:List UInt8)(rest:List Int):RU:={ zeroR with hq:=(cut rest [63]).2.2,sch:=sch }
def Zwt(x:RU×Int)(hf:Bool)(frag:List Int):RU×Int:=if x.2≠0 then(zeroR,x.2)else({ x.1 with hf:=hf,fr:=if hf=true then encoded frag Zlf else x.1.fr },0)
def Zwu(sch:List UInt8)(rest:List Int)(ob:Option RU):RU×Int:=queried (ZaI (Zkb sch rest) (cut rest [63]).1 ob) (cut rest [63]).2.2 (cut rest [63]).2.1
def ZxC(rest:List Int)(b:RU):RU×Int:=queried (Zka (Zkb b.sch rest) (cut rest [63]).1 b) (cut rest [63]).2.2 (cut rest [63]).2.1
def Zkc(a:List Int)(frag:List Int)(hf:Bool)(ob:Option RU):RU×Int:=
 if(schemeOf a).2.2=true then Zwt (Zwu (schemeOf a).1 (schemeOf a).2.1 ob) hf frag
 else match ob with
 | none=>(zeroR,2)
 | some b=>if b.op=true then(if a≠[]∨hf=false then(zeroR,2)else Zwt ({ zeroR with sch:=b.sch,op:=true,bl:=b.bl,hq:=b.hq,q:=b.q },0) hf frag)else Zwt (ZxC (schemeOf a).2.1 b) hf frag
def Zaj(l:List UInt8)(ob:Option RU):RU×Int:=Zkc (cut (ZdF l) [35]).1 (cut (ZdF l) [35]).2.1 (cut (ZdF l) [35]).2.2 ob
def Zn8(e:Ending)(w w':World)(x:RU×Int):Prop:=
 (x.2≠0∧e=.returned (.tuple #[.pointer none,.int .i64 x.2])∧Nx w w')∨(x.2=0∧∃rb R bs,e=.returned (.tuple #[.pointer (some ⟨rb,0,none⟩),.int .i64 0])∧RB w' rb R∧RIs w' R x.1 bs∧w.heap.size≤rb∧Nx w w')
def BaseW(_w:World)(bv:Value)(ob:Option RU):Prop:=(ob=none∧bv=.pointer none)∨False
theorem BaseW.on{w w':World}{bv:Value}{ob:Option RU}(h:BaseW w bv ob)(_hn:Nx w w'):BaseW w' bv ob:=h
theorem BaseW.is{w w':World}{bv:Value}{ob:Option RU}{rb:Nat}{R:RR}(h:BaseW w bv ob)(_hb:But rb w w')(_hr:RB w rb R∨w.heap.size≤rb)(_hlt:∀qb Q,bv=.pointer (some ⟨qb,0,none⟩)→RB w qb Q→qb≠rb):BaseIs w' rb bv ob:=h
theorem ZpQ(l:LB):∀c∈ZdF l,Pt c:=fun c hc=>Zct l c (by
 have h:=(List.mem_filter.1 hc).1;unfold trimmed Zet ZkH at h
 exact(Xa _).subset (Xe.1 ((Xa _).subset (Xe.1 h))))
theorem ZfY(l:LI):(trimmed l).length≤l.length:=by
 unfold trimmed Zet ZkH;rw[Xd]
 have h1:=(Xa (l:=(l.dropWhile fun c=>decide (c≤32)).reverse) (fun c=>decide (c≤32))).length_le
 rw[Xd]at h1;exact Xc h1 (Xa _).length_le
theorem ZmC(l:LB):(ZdF l).length≤l.length:=Xc (ZoZ _) (Xc (ZfY _) (ZaO l))
theorem ZeV{l:LI}{c:Int}(h:c∈(schemeOf l).2.1):c∈l:=by
 unfold schemeOf at h
 split at h
 ·exact ZR (Or.inr h)
 ·exact h
theorem Zhw(l:LI):(schemeOf l).2.1.length≤l.length:=by
 unfold schemeOf
 split
 ·have:=(Zce l [58]).1;simp only;omega
 ·exact Xb _
theorem Zhx(l:LI)(h:l.length≤20000):(schemeOf l).1.length≤1000000:=by
 unfold schemeOf
 split
 ·have h1:=(Zce l [58]).1
  have h2:=Zbh (cut l [58]).1;simp only[lower,List.length_map]
  omega
 ·exact Nat.zero_le _
theorem ZtH(s:BA)(bv:Value)(ob:Option RU)(w:World)(hs:s.size≤20000)(hb:BaseW w bv ob)(hok:(schemeOf (cut (ZdF (tl s)) [35]).1).2.2=true):Calls Tryz.prog 149 #[.string s,bv] w fun e w'=>Zn8 e w w' (Zaj (tl s) ob):=by
 have HBB:=Za hb;have HOK:=Za hok;clear hb hok
 go_enter Tryz.func149,Tryz.ntmps149
 go_wp2_with fail
 refine(Za5 s _ (by omega)).mono ?_
 rintro e w1 ⟨v1,rfl,h1,hn1⟩;have H1:=Za h1;have HN1:=Za hn1;clear h1 hn1;go_wp2_with fail
 refine(Zh2 _ (Zk (tl s)) _ H1.out).mono ?_
 rintro e w1' ⟨v2,rfl,h2,rfl⟩;have H2:=Za h2;have hpl:=ZaO (tl s);rw[tl_length]at hpl;have htl:=ZfY (Zk (tl s));clear h2 H1;go_wp2_with fail
 refine(Zo0 _ (trimmed (Zk (tl s))) _ H2.out (by omega)).mono ?_
 rintro e w2 ⟨v3,rfl,h3,hn2⟩;have H3:=Za (show IntsAt w2 v3 (ZdF (tl s))from h3);have HN2:=Za (HN1.out.then hn2)
 have hll:(ZdF (tl s)).length≤20000:=Xc (ZmC _) (by rw[tl_length];exact hs)
 have HLP:=Za (ZpQ (tl s));clear h3 hn2 H2 HN1 hpl htl;have HPD:Hid (Zaj (tl s) ob=Zkc (cut (ZdF (tl s)) [35]).1 (cut (ZdF (tl s)) [35]).2.1 (cut (ZdF (tl s)) [35]).2.2 ob):=Za rfl;generalize ZdF (tl s)=L at *;go_wp2_with fail
 refine(Zdx _ L ⟨#[35]⟩ _ (Ze (by decide)) H3.out).mono ?_
 rintro e w3 ⟨va,vf,rfl,ha,hf,hn3⟩;rw[show tl (⟨#[35]⟩:BA)=[35]from rfl]at *
 have HPA:=Za (fun c (h:c∈(cut L [35]).1)=>HLP.out c (ZR (Or.inl h)))
 have HPF:=Za (fun c (h:c∈(cut L [35]).2.1)=>HLP.out c (ZR (Or.inr h)))
 have hcl:=(Zce L [35]).1;generalize cut L [35]=cc at *;obtain⟨a,frag,hf⟩:=cc;simp only at *;have HA:=Za ha;have HF:=Za hf;have HN3:=Za (HN2.out.then hn3);clear ha hf hn3 H3 HN2 HLP;have hsl:=Zhw a
 have hsc:=Zhx a (by omega)
 have HPR:=Za (fun c (h:c∈(schemeOf a).2.1)=>HPA.out c (ZeV h))
 go_wp2_with fail
 refine(Zhm _ a _ HA.out (by omega) HPA.out).mono ?_
 rintro e w4 ⟨sc,vr,rfl,hsce,hr,hn4⟩;have HSC:=Za hsce;have HRT:=Za hr;have HN4:=Za (HN3.out.then hn4);have HF4:=Za (HF.out.on hn4);have HA4:=Za (HA.out.on hn4)
 have hscs:sc.size≤1000000:=by rw[←tl_length,hsce];exact hsc
 clear hsce hr hn4 HN3 HF HA hsc;rw[HOK.out];have HD:=Za (HPD.out.trans (show Zkc a frag hf ob=Zwt (Zwu (schemeOf a).1 (schemeOf a).2.1 ob) hf frag from if_pos HOK.out));unfold Zwu Zkb at HD;generalize schemeOf a=sx at *;obtain⟨sch,rest,ok⟩:=sx;simp only at *;clear HPD HOK HA4;go_upto_region 18 with fail;obtain⟨rb,hrb⟩:∃rb,rb=w4.heap.size:=⟨_,rfl⟩
 have HB5:=Za (show RB (w4.alloc (Obj.cells #[.string ⟨#[]⟩,.string ⟨#[]⟩,.string ⟨#[]⟩,.bool false,.string ⟨#[]⟩,.int .i64 (-1),.slice none 0 0,.bool false,.string ⟨#[]⟩,.bool false,.string ⟨#[]⟩,.bool false,.string ⟨#[]⟩] 130)) rb Zj9 by rw[hrb];exact ZtG w4)
 have HR5:=Za (Zws (w4.alloc (Obj.cells #[.string ⟨#[]⟩,.string ⟨#[]⟩,.string ⟨#[]⟩,.bool false,.string ⟨#[]⟩,.int .i64 (-1),.slice none 0 0,.bool false,.string ⟨#[]⟩,.bool false,.string ⟨#[]⟩,.bool false,.string ⟨#[]⟩] 130)));have HN5:=Za (show Nx w (w4.alloc (Obj.cells #[.string ⟨#[]⟩,.string ⟨#[]⟩,.string ⟨#[]⟩,.bool false,.string ⟨#[]⟩,.int .i64 (-1),.slice none 0 0,.bool false,.string ⟨#[]⟩,.bool false,.string ⟨#[]⟩,.bool false,.string ⟨#[]⟩] 130))from HN4.out.alloc _);have HRT5:=Za (HRT.out.on (Nx.rfl.alloc (Obj.cells #[.string ⟨#[]⟩,.string ⟨#[]⟩,.string ⟨#[]⟩,.bool false,.string ⟨#[]⟩,.int .i64 (-1),.slice none 0 0,.bool false,.string ⟨#[]⟩,.bool false,.string ⟨#[]⟩,.bool false,.string ⟨#[]⟩] 130)));have HF5:=Za (HF4.out.on (Nx.rfl.alloc (Obj.cells #[.string ⟨#[]⟩,.string ⟨#[]⟩,.string ⟨#[]⟩,.bool false,.string ⟨#[]⟩,.int .i64 (-1),.slice none 0 0,.bool false,.string ⟨#[]⟩,.bool false,.string ⟨#[]⟩,.bool false,.string ⟨#[]⟩] 130)))
 have hrbw:w.heap.size≤rb:=by rw[hrb];exact HN4.out.size
 have HNE:=Za (show ∀qb Q,bv=.pointer (some ⟨qb,0,none⟩)→RB w qb Q→qb≠rb from fun qb Q _ hq e=>by have:=hq.lt;omega)
 rw[←hrb];clear hrb HRT HF4;generalize (w4.alloc (Obj.cells #[.string ⟨#[]⟩,.string ⟨#[]⟩,.string ⟨#[]⟩,.bool false,.string ⟨#[]⟩,.int .i64 (-1),.slice none 0 0,.bool false,.string ⟨#[]⟩,.bool false,.string ⟨#[]⟩,.bool false,.string ⟨#[]⟩] 130))=w5 at *;have HBT5:=Za (show But rb w w5 from But.nx HN5.out);go_wp2_with fail
 refine(Zdx _ rest ⟨#[63]⟩ _ (Ze (by decide)) HRT5.out).mono ?_
 rintro e w6 ⟨vt,vq,rfl,ht,hqv,hn6⟩;rw[show tl (⟨#[63]⟩:BA)=[63]from rfl]at *
 have HPT:=Za (fun c (h:c∈(cut rest [63]).1)=>HPR.out c (ZR (Or.inl h)))
 have HPQ:=Za (fun c (h:c∈(cut rest [63]).2.1)=>HPR.out c (ZR (Or.inr h)))
 have hcq:=(Zce rest [63]).1;generalize cut rest [63]=qc at *;obtain⟨tx,qu,hq⟩:=qc;simp only at *;have HTX:=Za ht;have HQV:=Za hqv;have HB6:=Za (HB5.out.on hn6);have HR6:=Za (HR5.out.on hn6);have HF6:=Za (HF5.out.on hn6);have HBT6:=Za (HBT5.out.then (But.nx hn6));have HN6:=Za (HN5.out.then hn6);clear ht hqv hn6 HB5 HR5 HF5 HBT5 HRT5 HN5;obtain⟨k0,k1,k2,k3,k4,k5,k6,k7,k8,k9,k10,k11,k12⟩:=HB6.out.cells;have f9:=HB6.out.free 9;have f0:=HB6.out.free 0;simp only[Zj9]at k0 k1 k2 k3 k4 k5 k6 k7 k8 k9 k10 k11 k12;go_upto_region 22 with fail;have HB7:=Za ((HB6.out.s9 hq).s0 sc);have hbt7:But rb w6 ((w6.setCell ⟨rb,9,none⟩ (.bool hq)).setCell ⟨rb,0,none⟩ (.string sc)):=((But.refl rb w6).set 9 _).set 0 _;have HBT7:=Za (HBT6.out.then hbt7);have hkp7:=hbt7.kp HB6.out
 have HR7:=Za (show RIs ((w6.setCell ⟨rb,9,none⟩ (.bool hq)).setCell ⟨rb,0,none⟩ (.string sc)) { Zj9 with hq:=hq,sch:=sc } { zeroR with hq:=hq,sch:=sch } []from { HR6.out.kp hkp7 with eq:=by rw[←HSC.out];rfl,lsch:=hscs })
 have HTX7:=Za (HTX.out.kp hkp7 (by decide))
 have HQV7:=Za (HQV.out.kp hkp7 (by decide))
 have HF7:=Za (HF6.out.kp hkp7 (by decide))
 clear k0 k1 k2 k3 k4 k5 k6 k7 k8 k9 k10 k11 k12 f9 f0 hbt7 hkp7 HTX HQV HF6;generalize ((w6.setCell ⟨rb,9,none⟩ (.bool hq)).setCell ⟨rb,0,none⟩ (.string sc))=w7 at *;have HBS7:=Za (HBB.out.is (R:=Zj9) HBT7.out (Or.inr hrbw) HNE.out);go_wp2_with fail
 refine(Zle rb _ _ [] _ bv tx ob _ HB7.out HR7.out HTX7.out (by omega) HPT.out HBS7.out).mono ?_
 rintro e w8 ⟨rfl,⟨R8,bs8,hB8,hR8⟩,hbt8⟩;have HB8:=Za hB8;have HR8:=Za hR8;have hkp8:=hbt8.kp HB7.out
 have HF8:=Za (HF7.out.kp hkp8 (by decide))
 have HQ8:=Za (HQV7.out.kp hkp8 (by decide))
 have HBT8:=Za (HBT7.out.then hbt8);clear hB8 hR8 hbt8 hkp8
 generalize ZaI { zeroR with hq:=hq,sch:=sch } tx ob=x at *
 obtain⟨y,err⟩:=x;simp only at HR8
 cases hq
 ·have HD1:=Za (show Zaj (tl s) ob=Zwt (y,err) hf frag by rw[HD.out,queried,if_neg (by decide)])
  clear HD;go_upto_region 27 with fail
  have HD2:=Za (show Zaj (tl s) ob=if err≠0 then(zeroR,err)else({ y with hf:=hf,fr:=if hf=true then encoded frag Zlf else y.fr },0)from HD1.out)
  clear HD1
  by_cases he:err=0
  ·subst he
   have HD3:=Za (HD2.out.trans (if_neg (by intro x;exact x rfl)))
   clear HD2;obtain⟨k0,k1,k2,k3,k4,k5,k6,k7,k8,k9,k10,k11,k12⟩:=HB8.out.cells;have f11:=HB8.out.free 11;go_upto_region 30 with fail;have HB10:=Za (HB8.out.s11 hf);have HBT10:=Za (show But rb w (w8.setCell ⟨rb,11,none⟩ (.bool hf))from HBT8.out.set 11 _);have hkp:Kp 130 w8 (w8.setCell ⟨rb,11,none⟩ (.bool hf)):=But.kp ((But.refl rb w8).set 11 _) HB8.out;have HR10:=Za (HR8.out.kp hkp)
   have HF10:=Za (HF8.out.kp hkp (by decide))
   have HIE:=Za HR8.out.eq;clear k0 k1 k2 k3 k4 k5 k6 k7 k8 k9 k10 k11 k12 f11 hkp;generalize (w8.setCell ⟨rb,11,none⟩ (.bool hf))=w10 at *
   cases hf
   ·have HE:=Za (show Zaj (tl s) ob=({ y with hf:=false },0)by rw[HD3.out,if_neg (by decide)])
    clear HD3;go_wp2;go_ret2
    exact Or.inr ⟨by rw[HE.out],rb,_,_,rfl,HB10.out,by rw[HE.out];exact { HR10.out with eq:=by rw[←HIE.out];rfl },hrbw,HBT10.out.below hrbw (Xb _)⟩
   ·have HE:=Za (show Zaj (tl s) ob=({ y with hf:=true,fr:=encoded frag Zlf },0)by rw[HD3.out,if_pos rfl])
    clear HD3;go_wp2_with fail
    refine(Z5 _ frag _ _ HF10.out (Ze (by decide)) (by omega) HPF.out).mono ?_
    rintro e w11 ⟨t,rfl,ht,hn11⟩;have HT:=Za (show tl t=encoded frag Zlf from ht);have HB11:=Za (HB10.out.on hn11);have HR11:=Za (HR10.out.on hn11);have HBT11:=Za (HBT10.out.then (But.nx hn11));clear ht hn11;obtain⟨k0,k1,k2,k3,k4,k5,k6,k7,k8,k9,k10,k11,k12⟩:=HB11.out.cells;have f12:=HB11.out.free 12;have HB12:=Za (HB11.out.s12 t);have HBT12:=Za (show But rb w (w11.setCell ⟨rb,12,none⟩ (.string t))from HBT11.out.set 12 _);have hkp:Kp 130 w11 (w11.setCell ⟨rb,12,none⟩ (.string t)):=But.kp ((But.refl rb w11).set 12 _) HB11.out;have HR12:=Za (HR11.out.kp hkp);clear hkp;go_wp2;go_ret2
    exact Or.inr ⟨by rw[HE.out],rb,_,_,rfl,HB12.out,by rw[HE.out];exact { HR12.out with eq:=by rw[←HIE.out,←HT.out];rfl },hrbw,HBT12.out.below hrbw (Xb _)⟩
  ·have he1:(err==0)=false:=beq_eq_false_iff_ne.2 he
   have he2:(err != 0)=true:=bne_iff_ne.2 he;have HE:=Za (HD2.out.trans (if_pos he));have HER:=Za he;clear he HD2;go_wp2;go_ret2
   exact Or.inl ⟨by rw[HE.out];exact HER.out,by rw[HE.out];rfl,HBT8.out.below hrbw (Xb _)⟩
 ·have HD1:=Za (show Zaj (tl s) ob=Zwt ({ y with q:=encoded qu (tl (Zvd (Zg y.sch))) },err) hf frag by rw[HD.out,queried,if_pos rfl])
  clear HD;have k0:=HB8.out.cells.1;go_wp2_with fail
  refine(Znu _ qu R8.sch _ HQ8.out (by omega) HPQ.out).mono ?_
  rintro e w9 ⟨t9,rfl,ht9,hn9⟩
  have HT9:=Za (show tl t9=encoded qu (tl (Zvd (Zg y.sch)))by rw[←HR8.out.usch];exact ht9)
  have HB9:=Za (HB8.out.on hn9);have HR9:=Za (HR8.out.on hn9);have HF9:=Za (HF8.out.on hn9);have HBT9:=Za (HBT8.out.then (But.nx hn9));clear ht9 hn9 k0 HB8 HR8 HF8 HBT8 HQ8;obtain⟨k0,k1,k2,k3,k4,k5,k6,k7,k8,k9,k10,k11,k12⟩:=HB9.out.cells;have f10:=HB9.out.free 10;go_upto_region 27 with fail;have HB9a:=Za (HB9.out.s10 t9);have HBT9a:=Za (show But rb w (w9.setCell ⟨rb,10,none⟩ (.string t9))from HBT9.out.set 10 _);have hkp:Kp 130 w9 (w9.setCell ⟨rb,10,none⟩ (.string t9)):=But.kp ((But.refl rb w9).set 10 _) HB9.out
  have HR9a:=Za (show RIs (w9.setCell ⟨rb,10,none⟩ (.string t9)) { R8 with q:=t9 } { y with q:=encoded qu (tl (Zvd (Zg y.sch))) } bs8 from { HR9.out.kp hkp with eq:=by rw[←HT9.out,←HR9.out.eq];rfl })
  have HF9a:=Za (HF9.out.kp hkp (by decide))
  clear k0 k1 k2 k3 k4 k5 k6 k7 k8 k9 k10 k11 k12 f10 hkp HB9 HR9 HF9 HBT9;generalize (w9.setCell ⟨rb,10,none⟩ (.string t9))=w9a at *
  obtain⟨y2,hy2⟩:∃y2,y2={ y with q:=encoded qu (tl (Zvd (Zg y.sch))) }:=⟨_,rfl⟩
  rw[←hy2]at HD1 HR9a;clear hy2 HT9;obtain⟨y,hyy⟩:∃y,y=y2:=⟨_,rfl⟩;subst hyy
  have HD2:=Za (show Zaj (tl s) ob=if err≠0 then(zeroR,err)else({ y with hf:=hf,fr:=if hf=true then encoded frag Zlf else y.fr },0)from HD1.out)
  clear HD1
  by_cases he:err=0
  ·subst he
   have HD3:=Za (HD2.out.trans (if_neg (by intro x;exact x rfl)))
   clear HD2;obtain⟨k0,k1,k2,k3,k4,k5,k6,k7,k8,k9,k10,k11,k12⟩:=HB9a.out.cells;have f11:=HB9a.out.free 11;go_upto_region 30 with fail;have HB10:=Za (HB9a.out.s11 hf);have HBT10:=Za (show But rb w (w9a.setCell ⟨rb,11,none⟩ (.bool hf))from HBT9a.out.set 11 _);have hkp:Kp 130 w9a (w9a.setCell ⟨rb,11,none⟩ (.bool hf)):=But.kp ((But.refl rb w9a).set 11 _) HB9a.out;have HR10:=Za (HR9a.out.kp hkp)
   have HF10:=Za (HF9a.out.kp hkp (by decide))
   have HIE:=Za HR9a.out.eq;clear k0 k1 k2 k3 k4 k5 k6 k7 k8 k9 k10 k11 k12 f11 hkp;generalize (w9a.setCell ⟨rb,11,none⟩ (.bool hf))=w10 at *
   cases hf
   ·have HE:=Za (show Zaj (tl s) ob=({ y with hf:=false },0)by rw[HD3.out,if_neg (by decide)])
    clear HD3;go_wp2;go_ret2
    exact Or.inr ⟨by rw[HE.out],rb,_,_,rfl,HB10.out,by rw[HE.out];exact { HR10.out with eq:=by rw[←HIE.out];rfl },hrbw,HBT10.out.below hrbw (Xb _)⟩
   ·have HE:=Za (show Zaj (tl s) ob=({ y with hf:=true,fr:=encoded frag Zlf },0)by rw[HD3.out,if_pos rfl])
    clear HD3;go_wp2_with fail
    refine(Z5 _ frag _ _ HF10.out (Ze (by decide)) (by omega) HPF.out).mono ?_
    rintro e w11 ⟨t,rfl,ht,hn11⟩;have HT:=Za (show tl t=encoded frag Zlf from ht);have HB11:=Za (HB10.out.on hn11);have HR11:=Za (HR10.out.on hn11);have HBT11:=Za (HBT10.out.then (But.nx hn11));clear ht hn11;obtain⟨k0,k1,k2,k3,k4,k5,k6,k7,k8,k9,k10,k11,k12⟩:=HB11.out.cells;have f12:=HB11.out.free 12;have HB12:=Za (HB11.out.s12 t);have HBT12:=Za (show But rb w (w11.setCell ⟨rb,12,none⟩ (.string t))from HBT11.out.set 12 _);have hkp:Kp 130 w11 (w11.setCell ⟨rb,12,none⟩ (.string t)):=But.kp ((But.refl rb w11).set 12 _) HB11.out;have HR12:=Za (HR11.out.kp hkp);clear hkp;go_wp2;go_ret2
    exact Or.inr ⟨by rw[HE.out],rb,_,_,rfl,HB12.out,by rw[HE.out];exact { HR12.out with eq:=by rw[←HIE.out,←HT.out];rfl },hrbw,HBT12.out.below hrbw (Xb _)⟩
  ·have he1:(err==0)=false:=beq_eq_false_iff_ne.2 he
   have he2:(err != 0)=true:=bne_iff_ne.2 he;have HE:=Za (HD2.out.trans (if_pos he));have HER:=Za he;clear he HD2;go_wp2;go_ret2
   exact Or.inl ⟨by rw[HE.out];exact HER.out,by rw[HE.out];rfl,HBT9a.out.below hrbw (Xb _)⟩
def Zdt(m:RU):List UInt8:=if 0≤m.port then m.htx++[58]++dec m.port.toNat else m.htx
def Zdi(m:RU):List UInt8:=m.bl++Zc6 m.path
def ZfZ(m:RU):List UInt8:=if m.user=[]∧m.pass=[]then []else if m.pass=[]then m.user++[64]else m.user++[58]++m.pass++[64]
def Zdc(m:RU):List UInt8:=if m.his=true then [47,47]++ZfZ m++Zdt m else if 1<m.path.length∧m.path.getD 0 []=[]then [47,46]else []
def ZhN(m:RU):List UInt8:=m.sch++[58]++Zdc m++Zdi m++(if m.hq=true then [63]++m.q else [])++(if m.hf=true then [35]++m.fr else [])
def ZyD:List UInt8:=[104,116,116,112]
def Zt6:List UInt8:=[104,116,116,112,115]
def Zt7:List UInt8:=[110,117,108,108]
def Zrj:List UInt8:=[98,108,111,98]
def Zf0(m:RU):List UInt8:=m.sch++[58,47,47]++Zdt m
def ZiX(x:RU×Int):List UInt8:=if x.2=0∧(x.1.sch=ZyD∨x.1.sch=Zt6)then Zf0 x.1 else Zt7
def Zbs(m:RU):List UInt8:=if Zg m.sch=true∧m.sch≠ZO then Zf0 m else if m.sch=Zrj then ZiX (Zaj (Zdi m) none)else Zt7
def Zrk(c:UInt8)(t:List UInt8):List UInt8:=if t=[]then []else c::t
def Zt8(m:RU):List UInt8:=if 0≤m.port then dec m.port.toNat else []
def ZcR(c:Int):Int:=if c=43 then 32 else c
def ZiY(l:List Int):List UInt8:=Zb (Zk (decoded (Zb (l.map ZcR))))
def Zol(a:List Int):List UInt8×List UInt8:=(ZiY (cut a [61]).1,ZiY (cut a [61]).2.1)
def ZhA(q:List UInt8):List (List UInt8×List UInt8):=((parts (Zk q) [38]).filter fun a=>!a.isEmpty).map Zol
def ZiZ(m:RU):List (List UInt8×List UInt8):=if m.hq=true then ZhA m.q else []
def Zg0(base:List UInt8)(based:Bool):Option RU×Int:=
 if based=false then(none,0)else if(Zaj base none).2=2 then(none,4)else if(Zaj base none).2≠0 then(none,(Zaj base none).2)else(some (Zaj base none).1,0)
def Zvg(l base:List UInt8)(based:Bool):RU×Int:=
 if 160<l.length∨(based=true∧160<base.length)then(zeroR,1)
 else if(Zg0 base based).2≠0 then(zeroR,(Zg0 base based).2)else Zaj l (Zg0 base based).1
def Zel(l:List UInt8):List UInt8:=(l.reverse.dropWhile fun b=>(b.toNat:Int)==32).reverse
def ZhB(m:RU):RU:=if m.op=true∧m.hq=false∧m.hf=false then { m with bl:=Zel m.bl }else m
def Zz0(c:Int)(p:List Int):List Int:=if p.headD 0=c then p.drop 1 else p
def ZyE(m:RU)(p:List Int):RU:=
 if p=[]then ZhB { m with hq:=false,q:=[] }else { m with hq:=true,q:=encoded (flat (Zz0 63 p)) (tl (Zvd (Zg m.sch))) }
def ZyF(m:RU):Prop:=m.htx=[]∨m.sch=ZO
instance (m:RU):Decidable (ZyF m):=by unfold ZyF;infer_instance
def putList(m:RU)(k:Int)(l:List UInt8)(ps:List (List UInt8×List UInt8)):List (List UInt8×List UInt8):=
 if k=1 then(if(Zaj l none).2≠0 then ps else ZiZ (Zaj l none).1)else if k=9 then ZiZ (ZyE m (Zk l))else ps
end Go.Proofs.YtchkhibgbnhjpabGreatDoor
