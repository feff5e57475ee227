import Derived.Test.YtchkhibgbnhjpabGreatDoorT05
open List renaming dropWhile_sublist→Xe,length_map→Xf,getElem?_eq_getElem→Xg,take_succ_eq_append_getElem→Xh,take_of_length_le→Xi,length_reverse→Xj,mem_reverse→Xl,map_append→Xm,mem_map→Xn
open Nat renaming le_trans→Xa,le_refl→Xb,zero_le→Xk
open Or renaming inr→Xc,inl→Xd
open Go.Value renaming string→J,bool→C,int→I
open Go.IntKind renaming i64→X
open Go.Ending renaming returned→Y
open Go.Obj renaming cells→O
namespace Go.Proofs.YtchkhibgbnhjpabGreatDoor
open Tryz
open Go.RowKit
set_option maxHeartbeats 8000000
set_option maxRecDepth 8000
variable [Fl]
set_option linter.all false
def zeroR:RU:=⟨[],[],[],false,[],-1,[],false,[],false,[],false,[]⟩
def ZBg:RR:=⟨⟨#[]⟩,⟨#[]⟩,⟨#[]⟩,false,⟨#[]⟩,-1,none,0,0,false,⟨#[]⟩,false,⟨#[]⟩,false,⟨#[]⟩⟩
theorem ZDm(w:World):RB (w.alloc (O #[J ⟨#[]⟩,J ⟨#[]⟩,J ⟨#[]⟩,C false,J ⟨#[]⟩,I X (-1),.slice none 0 0,C false,J ⟨#[]⟩,C false,J ⟨#[]⟩,C false,J ⟨#[]⟩] 130)) w.heap.size ZBg:=heap_alloc_new w _
theorem ZEE(w:World)(hf:Fl.n<=w.heap.size):RIs w ZBg zeroR []:=⟨rfl,Sg.nil w,by decide,by decide,(fun b hb=>by cases hb),hf⟩
def ZzG(l:List UInt8):List Int:=flat (trimmed (Zl l))
def ZCj:List UInt8:=[32,34,60,62,96]
def queried(x:RU×Int)(hq:Bool)(query:List Int):RU×Int:=if hq=true then({ x.1 with q:=encoded query (tl (Zpc (Zg x.1.sch))) },x.2)else x
def ZBh(u:RU)(l:List Int)(b:RU):RU×Int:=if u.sch=Zzu then ZAp u l (ZDO (some b))else ZA4 u l b
def ZDn(sch:List UInt8)(rest:List Int):RU:={ zeroR with hq:=(cut rest [63]).2.2,sch:=sch }
def ZIa(x:RU×Int)(hf:Bool)(frag:List Int):RU×Int:=if x.2≠0 then(zeroR,x.2)else({ x.1 with hf:=hf,fr:=if hf=true then encoded frag ZCj else x.1.fr },0)
def ZLh(sch:List UInt8)(rest:List Int)(ob:Option RU):RU×Int:=queried (ZzD (ZDn sch rest) (cut rest [63]).1 ob) (cut rest [63]).2.2 (cut rest [63]).2.1
def ZHq(rest:List Int)(b:RU):RU×Int:=queried (ZBh (ZDn b.sch rest) (cut rest [63]).1 b) (cut rest [63]).2.2 (cut rest [63]).2.1
def ZBi(a:List Int)(frag:List Int)(hf:Bool)(ob:Option RU):RU×Int:=
 if(schemeOf a).2.2=true then ZIa (ZLh (schemeOf a).1 (schemeOf a).2.1 ob) hf frag
 else match ob with
 | none=>(zeroR,2)
 | some b=>if b.op=true then(if a≠[]∨hf=false then(zeroR,2)else ZIa ({ zeroR with sch:=b.sch,op:=true,bl:=b.bl,hq:=b.hq,q:=b.q },0) hf frag)else ZIa (ZHq (schemeOf a).2.1 b) hf frag
def parseR(l:List UInt8)(ob:Option RU):RU×Int:=ZBi (cut (ZzG l) [35]).1 (cut (ZzG l) [35]).2.1 (cut (ZzG l) [35]).2.2 ob
def ZCA(e:Ending)(w w':World)(x:RU×Int):Prop:=
 (x.2≠0/\e=Y (.tuple #[.pointer none,I X x.2])/\Nx w w')∨(x.2=0/\∃rb R bs,e=Y (.tuple #[.pointer (some ⟨rb,0,none⟩),I X 0])/\RB w' rb R/\RIs w' R x.1 bs/\w.heap.size<=rb/\Nx w w')
def BaseW(w:World)(bv:Value)(ob:Option RU):Prop:=(ob=none/\bv=.pointer none/\Fl.n<=w.heap.size)∨∃qb Q b cs,ob=some b/\bv=.pointer (some ⟨qb,0,none⟩)/\RB w qb Q/\RIs w Q b cs/\cs.length<=70000
theorem BaseW.fw{w:World}{bv:Value}{ob:Option RU}(h:BaseW w bv ob):Fl.n<=w.heap.size:=by
 rcases h with⟨-,-,h⟩|⟨qb,Q,b,cs,h1,h2,h3,h4,h5⟩
 .exact h
 .exact h4.fw
theorem BaseW.on{w w':World}{bv:Value}{ob:Option RU}(h:BaseW w bv ob)(hn:Nx w w'):BaseW w' bv ob:=by
 rcases h with⟨g1,g2,g3⟩|⟨qb,Q,b,cs,h1,h2,h3,h4,h5⟩
 .exact Xd ⟨g1,g2,Xa g3 hn.size⟩
 .exact Xc ⟨qb,Q,b,cs,h1,h2,h3.on hn,h4.on hn,h5⟩
theorem BaseW.is{w w':World}{bv:Value}{ob:Option RU}{rb:Nat}{R:RR}(h:BaseW w bv ob)(hb:But rb w w')(hr:RB w rb R∨w.heap.size<=rb)(hlt:∀qb Q,bv=.pointer (some ⟨qb,0,none⟩)->RB w qb Q->qb≠rb):BaseIs w' rb bv ob:=by
 rcases h with⟨g1,g2,-⟩|⟨qb,Q,b,cs,h1,h2,h3,h4,h5⟩
 .exact Xd ⟨g1,g2⟩
 .have hne:=hlt qb Q h2 h3
  refine Xc ⟨qb,Q,b,cs,h1,h2,h3.but hb hne,?_,hne,h5⟩
  rcases hr with hr|hr
  .exact h4.kp (hb.kp hr)
  .exact h4.on (hb.below hr (Xb _))
theorem ZCk(l:LB):∀c∈ZzG l,Pt c:=fun c hc=>Zcy l c (by
 have h:=(List.mem_filter.1 hc).1;unfold trimmed Zex Zkn at h
 exact(Xe _).subset (Xl.1 ((Xe _).subset (Xl.1 h))))
theorem ZAr(l:LI):(trimmed l).length<=l.length:=by
 unfold trimmed Zex Zkn;rw[Xj]
 have h1:=(Xe (l:=(l.dropWhile fun c=>decide (c<=32)).reverse) (fun c=>decide (c<=32))).length_le
 rw[Xj]at h1;exact Xa h1 (Xe _).length_le
theorem ZBD(l:LB):(ZzG l).length<=l.length:=Xa (ZoM _) (Xa (ZAr _) (Zaf l))
theorem ZAa{l:LI}{c:Int}(h:c∈(schemeOf l).2.1):c∈l:=by
 unfold schemeOf at h
 split at h
 .exact Zy (Xc h)
 .exact h
theorem ZAy(l:LI):(schemeOf l).2.1.length<=l.length:=by
 unfold schemeOf
 split
 .have:=(Zbc l [58]).1;simp only;omega
 .exact Xb _
theorem ZAz(l:LI)(h:l.length<=20000):(schemeOf l).1.length<=1000000:=by
 unfold schemeOf
 split
 .have h1:=(Zbc l [58]).1
  have h2:=Za9 (cut l [58]).1;simp only[lower,Xf]
  omega
 .exact Xk _
theorem ZJA(s:BA)(bv:Value)(ob:Option RU)(w:World)(hs:s.size<=20000)(hb:BaseW w bv ob)(hok:(schemeOf (cut (ZzG (tl s)) [35]).1).2.2=true):Calls prog 149 #[J s,bv] w fun e w'=>ZCA e w w' (parseR (tl s) ob):=by
 have HBB:=A hb;have HOK:=A hok;clear hb hok
 go_enter func149,ntmps149
 go_wp2_with fail
 refine(Zau s _ (by omega)).mono ?_
 rintro e w1 ⟨v1,rfl,h1,hn1⟩;have H1:=A h1;have HN1:=A hn1;clear h1 hn1;go_wp2_with fail
 refine(Zc5 _ (Zl (tl s)) _ H1.o).mono ?_
 rintro e w1' ⟨v2,rfl,h2,rfl⟩;have H2:=A h2;have hpl:=Zaf (tl s);rw[Za]at hpl;have htl:=ZAr (Zl (tl s));clear h2 H1;go_wp2_with fail
 refine(Zf1 _ (trimmed (Zl (tl s))) _ H2.o (by omega)).mono ?_
 rintro e w2 ⟨v3,rfl,h3,hn2⟩;have H3:=A (show IntsAt w2 v3 (ZzG (tl s))from h3);have HN2:=A (HN1.o.then hn2)
 have hll:(ZzG (tl s)).length<=20000:=Xa (ZBD _) (by rw[Za];exact hs)
 have HLP:=A (ZCk (tl s));clear h3 hn2 H2 HN1 hpl htl;have HPD:Hid (parseR (tl s) ob=ZBi (cut (ZzG (tl s)) [35]).1 (cut (ZzG (tl s)) [35]).2.1 (cut (ZzG (tl s)) [35]).2.2 ob):=A rfl;generalize ZzG (tl s)=L at *;go_wp2_with fail
 refine(ZbY _ L ⟨#[35]⟩ _ (Ze (by decide)) H3.o).mono ?_
 rintro e w3 ⟨va,vf,rfl,ha,hf,hn3⟩;rw[show tl (⟨#[35]⟩:BA)=[35]from rfl]at *
 have HPA:=A (fun c (h:c∈(cut L [35]).1)=>HLP.o c (Zy (Xd h)))
 have HPF:=A (fun c (h:c∈(cut L [35]).2.1)=>HLP.o c (Zy (Xc h)))
 have hcl:=(Zbc L [35]).1;generalize cut L [35]=cc at *;obtain⟨a,frag,hf⟩:=cc;simp only at *;have HA:=A ha;have HF:=A hf;have HN3:=A (HN2.o.then hn3);clear ha hf hn3 H3 HN2 HLP;have hsl:=ZAy a
 have hsc:=ZAz a (by omega)
 have HPR:=A (fun c (h:c∈(schemeOf a).2.1)=>HPA.o c (ZAa h))
 go_wp2_with fail
 refine(ZAw _ a _ HA.o (by omega) HPA.o).mono ?_
 rintro e w4 ⟨sc,vr,rfl,hsce,hr,hn4⟩;have HSC:=A hsce;have HRT:=A hr;have HN4:=A (HN3.o.then hn4);have HF4:=A (HF.o.on hn4);have HA4:=A (HA.o.on hn4)
 have hscs:sc.size<=1000000:=by rw[<-Za,hsce];exact hsc
 clear hsce hr hn4 HN3 HF HA hsc;rw[HOK.o];have HD:=A (HPD.o.trans (show ZBi a frag hf ob=ZIa (ZLh (schemeOf a).1 (schemeOf a).2.1 ob) hf frag from ifP HOK.o));unfold ZLh ZDn at HD;generalize schemeOf a=sx at *;obtain⟨sch,rest,ok⟩:=sx;simp only at *;clear HPD HOK HA4;go_upto_region 18 with fail;obtain⟨rb,hrb⟩:∃rb,rb=w4.heap.size:=⟨_,rfl⟩
 have HB5:=A (show RB (w4.alloc (O #[J ⟨#[]⟩,J ⟨#[]⟩,J ⟨#[]⟩,C false,J ⟨#[]⟩,I X (-1),.slice none 0 0,C false,J ⟨#[]⟩,C false,J ⟨#[]⟩,C false,J ⟨#[]⟩] 130)) rb ZBg by rw[hrb];exact ZDm w4)
 have HR5:=A (ZEE (w4.alloc (O #[J ⟨#[]⟩,J ⟨#[]⟩,J ⟨#[]⟩,C false,J ⟨#[]⟩,I X (-1),.slice none 0 0,C false,J ⟨#[]⟩,C false,J ⟨#[]⟩,C false,J ⟨#[]⟩] 130)) (Xa HBB.o.fw (HN4.o.alloc _).size));have HN5:=A (show Nx w (w4.alloc (O #[J ⟨#[]⟩,J ⟨#[]⟩,J ⟨#[]⟩,C false,J ⟨#[]⟩,I X (-1),.slice none 0 0,C false,J ⟨#[]⟩,C false,J ⟨#[]⟩,C false,J ⟨#[]⟩] 130))from HN4.o.alloc _);have HRT5:=A (HRT.o.on (Nx.rfl.alloc (O #[J ⟨#[]⟩,J ⟨#[]⟩,J ⟨#[]⟩,C false,J ⟨#[]⟩,I X (-1),.slice none 0 0,C false,J ⟨#[]⟩,C false,J ⟨#[]⟩,C false,J ⟨#[]⟩] 130)));have HF5:=A (HF4.o.on (Nx.rfl.alloc (O #[J ⟨#[]⟩,J ⟨#[]⟩,J ⟨#[]⟩,C false,J ⟨#[]⟩,I X (-1),.slice none 0 0,C false,J ⟨#[]⟩,C false,J ⟨#[]⟩,C false,J ⟨#[]⟩] 130)))
 have hrbw:w.heap.size<=rb:=by rw[hrb];exact HN4.o.size
 have HNE:=A (show ∀qb Q,bv=.pointer (some ⟨qb,0,none⟩)->RB w qb Q->qb≠rb from fun qb Q _ hq e=>by have:=hq.lt;omega)
 rw[<-hrb];clear hrb HRT HF4;generalize (w4.alloc (O #[J ⟨#[]⟩,J ⟨#[]⟩,J ⟨#[]⟩,C false,J ⟨#[]⟩,I X (-1),.slice none 0 0,C false,J ⟨#[]⟩,C false,J ⟨#[]⟩,C false,J ⟨#[]⟩] 130))=w5 at *;have HBT5:=A (show But rb w w5 from But.nx HN5.o);go_wp2_with fail
 refine(ZbY _ rest ⟨#[63]⟩ _ (Ze (by decide)) HRT5.o).mono ?_
 rintro e w6 ⟨vt,vq,rfl,ht,hqv,hn6⟩;rw[show tl (⟨#[63]⟩:BA)=[63]from rfl]at *
 have HPT:=A (fun c (h:c∈(cut rest [63]).1)=>HPR.o c (Zy (Xd h)))
 have HPQ:=A (fun c (h:c∈(cut rest [63]).2.1)=>HPR.o c (Zy (Xc h)))
 have hcq:=(Zbc rest [63]).1;generalize cut rest [63]=qc at *;obtain⟨tx,qu,hq⟩:=qc;simp only at *;have HTX:=A ht;have HQV:=A hqv;have HB6:=A (HB5.o.on hn6);have HR6:=A (HR5.o.on hn6);have HF6:=A (HF5.o.on hn6);have HBT6:=A (HBT5.o.then (But.nx hn6));have HN6:=A (HN5.o.then hn6);clear ht hqv hn6 HB5 HR5 HF5 HBT5 HRT5 HN5;obtain⟨k0,k1,k2,k3,k4,k5,k6,k7,k8,k9,k10,k11,k12⟩:=HB6.o.cells;have f9:=HB6.o.free 9;have f0:=HB6.o.free 0;simp only[ZBg]at k0 k1 k2 k3 k4 k5 k6 k7 k8 k9 k10 k11 k12;go_upto_region 22 with fail;have HB7:=A ((HB6.o.s9 hq).s0 sc);have hbt7:But rb w6 ((w6.setCell ⟨rb,9,none⟩ (C hq)).setCell ⟨rb,0,none⟩ (J sc)):=((But.refl rb w6).set 9 _).set 0 _;have HBT7:=A (HBT6.o.then hbt7);have hkp7:=hbt7.kp HB6.o
 have HR7:=A (show RIs ((w6.setCell ⟨rb,9,none⟩ (C hq)).setCell ⟨rb,0,none⟩ (J sc)) { ZBg with hq:=hq,sch:=sc } { zeroR with hq:=hq,sch:=sch } []from { HR6.o.kp hkp7 with eq:=by rw[<-HSC.o];rfl,lsch:=hscs })
 have HTX7:=A (HTX.o.kp hkp7 (by decide))
 have HQV7:=A (HQV.o.kp hkp7 (by decide))
 have HF7:=A (HF6.o.kp hkp7 (by decide))
 clear k0 k1 k2 k3 k4 k5 k6 k7 k8 k9 k10 k11 k12 f9 f0 hbt7 hkp7 HTX HQV HF6;generalize ((w6.setCell ⟨rb,9,none⟩ (C hq)).setCell ⟨rb,0,none⟩ (J sc))=w7 at *;have HBS7:=A (HBB.o.is (R:=ZBg) HBT7.o (Xc hrbw) HNE.o);go_wp2_with fail
 refine(ZED rb _ _ [] _ bv tx ob _ HB7.o HR7.o HTX7.o (by omega) HPT.o HBS7.o).mono ?_
 rintro e w8 ⟨rfl,⟨R8,bs8,hB8,hR8⟩,hbt8⟩;have HB8:=A hB8;have HR8:=A hR8;have hkp8:=hbt8.kp HB7.o
 have HF8:=A (HF7.o.kp hkp8 (by decide))
 have HQ8:=A (HQV7.o.kp hkp8 (by decide))
 have HBT8:=A (HBT7.o.then hbt8);clear hB8 hR8 hbt8 hkp8
 generalize ZzD { zeroR with hq:=hq,sch:=sch } tx ob=x at *
 obtain⟨y,err⟩:=x;simp only at HR8
 cases hq
 focus
  have HD1:=A (show parseR (tl s) ob=ZIa (y,err) hf frag by rw[HD.o,queried,ifN (by decide)])
  clear HD;go_upto_region 27 with fail
  have HD2:=A (show parseR (tl s) ob=if err≠0 then(zeroR,err)else({ y with hf:=hf,fr:=if hf=true then encoded frag ZCj else y.fr },0)from HD1.o)
  clear HD1
  by_cases he:err=0
  focus
   subst he
   have HD3:=A (HD2.o.trans (ifN (by intro x;exact x rfl)))
   clear HD2;obtain⟨k0,k1,k2,k3,k4,k5,k6,k7,k8,k9,k10,k11,k12⟩:=HB8.o.cells;have f11:=HB8.o.free 11;go_upto_region 30 with fail;have HB10:=A (HB8.o.s11 hf);have HBT10:=A (show But rb w (w8.setCell ⟨rb,11,none⟩ (C hf))from HBT8.o.set 11 _);have hkp:Kp 130 w8 (w8.setCell ⟨rb,11,none⟩ (C hf)):=But.kp ((But.refl rb w8).set 11 _) HB8.o;have HR10:=A (HR8.o.kp hkp)
   have HF10:=A (HF8.o.kp hkp (by decide))
   have HIE:=A HR8.o.eq;clear k0 k1 k2 k3 k4 k5 k6 k7 k8 k9 k10 k11 k12 f11 hkp;generalize (w8.setCell ⟨rb,11,none⟩ (C hf))=w10 at *
  rotate_left
  .have he1:(err==0)=false:=beq_eq_false_iff_ne.2 he
   have he2:(err != 0)=true:=bne_iff_ne.2 he;have HE:=A (HD2.o.trans (ifP he));have HER:=A he;clear he HD2;go_wp2;go_ret2
   exact Xd ⟨by rw[HE.o];exact HER.o,by rw[HE.o];rfl,HBT8.o.below hrbw (Xb _)⟩
 rotate_left
 focus
  have HD1:=A (show parseR (tl s) ob=ZIa ({ y with q:=encoded qu (tl (Zpc (Zg y.sch))) },err) hf frag by rw[HD.o,queried,ifP rfl])
  clear HD;have k0:=HB8.o.cells.1;go_wp2_with fail
  refine(Zip _ qu R8.sch _ HQ8.o (by omega) HPQ.o).mono ?_
  rintro e w9 ⟨t9,rfl,ht9,hn9⟩
  have HT9:=A (show tl t9=encoded qu (tl (Zpc (Zg y.sch)))by rw[<-HR8.o.usch];exact ht9)
  have HB9:=A (HB8.o.on hn9);have HR9:=A (HR8.o.on hn9);have HF9:=A (HF8.o.on hn9);have HBT9:=A (HBT8.o.then (But.nx hn9));clear ht9 hn9 k0 HB8 HR8 HF8 HBT8 HQ8;obtain⟨k0,k1,k2,k3,k4,k5,k6,k7,k8,k9,k10,k11,k12⟩:=HB9.o.cells;have f10:=HB9.o.free 10;go_upto_region 27 with fail;have HB9a:=A (HB9.o.s10 t9);have HBT9a:=A (show But rb w (w9.setCell ⟨rb,10,none⟩ (J t9))from HBT9.o.set 10 _);have hkp:Kp 130 w9 (w9.setCell ⟨rb,10,none⟩ (J t9)):=But.kp ((But.refl rb w9).set 10 _) HB9.o
  have HR9a:=A (show RIs (w9.setCell ⟨rb,10,none⟩ (J t9)) { R8 with q:=t9 } { y with q:=encoded qu (tl (Zpc (Zg y.sch))) } bs8 from { HR9.o.kp hkp with eq:=by rw[<-HT9.o,<-HR9.o.eq];rfl })
  have HF9a:=A (HF9.o.kp hkp (by decide))
  clear k0 k1 k2 k3 k4 k5 k6 k7 k8 k9 k10 k11 k12 f10 hkp HB9 HR9 HF9 HBT9;generalize (w9.setCell ⟨rb,10,none⟩ (J t9))=w9a at *
  obtain⟨y2,hy2⟩:∃y2,y2={ y with q:=encoded qu (tl (Zpc (Zg y.sch))) }:=⟨_,rfl⟩
  rw[<-hy2]at HD1 HR9a;clear hy2 HT9;obtain⟨y,hyy⟩:∃y,y=y2:=⟨_,rfl⟩;subst hyy
  have HD2:=A (show parseR (tl s) ob=if err≠0 then(zeroR,err)else({ y with hf:=hf,fr:=if hf=true then encoded frag ZCj else y.fr },0)from HD1.o)
  clear HD1
  by_cases he:err=0
  focus
   subst he
   have HD3:=A (HD2.o.trans (ifN (by intro x;exact x rfl)))
   clear HD2;obtain⟨k0,k1,k2,k3,k4,k5,k6,k7,k8,k9,k10,k11,k12⟩:=HB9a.o.cells;have f11:=HB9a.o.free 11;go_upto_region 30 with fail;have HB10:=A (HB9a.o.s11 hf);have HBT10:=A (show But rb w (w9a.setCell ⟨rb,11,none⟩ (C hf))from HBT9a.o.set 11 _);have hkp:Kp 130 w9a (w9a.setCell ⟨rb,11,none⟩ (C hf)):=But.kp ((But.refl rb w9a).set 11 _) HB9a.o;have HR10:=A (HR9a.o.kp hkp)
   have HF10:=A (HF9a.o.kp hkp (by decide))
   have HIE:=A HR9a.o.eq;clear k0 k1 k2 k3 k4 k5 k6 k7 k8 k9 k10 k11 k12 f11 hkp;generalize (w9a.setCell ⟨rb,11,none⟩ (C hf))=w10 at *
  rotate_left
  .have he1:(err==0)=false:=beq_eq_false_iff_ne.2 he
   have he2:(err != 0)=true:=bne_iff_ne.2 he;have HE:=A (HD2.o.trans (ifP he));have HER:=A he;clear he HD2;go_wp2;go_ret2
   exact Xd ⟨by rw[HE.o];exact HER.o,by rw[HE.o];rfl,HBT9a.o.below hrbw (Xb _)⟩
 all_goals
  cases hf
  .have HE:=A (show parseR (tl s) ob=({ y with hf:=false },0)by rw[HD3.o,ifN (by decide)])
   clear HD3;go_wp2;go_ret2
   exact Xc ⟨by rw[HE.o],rb,_,_,rfl,HB10.o,by rw[HE.o];exact { HR10.o with eq:=by rw[<-HIE.o];rfl },hrbw,HBT10.o.below hrbw (Xb _)⟩
  .have HE:=A (show parseR (tl s) ob=({ y with hf:=true,fr:=encoded frag ZCj },0)by rw[HD3.o,ifP rfl])
   clear HD3;go_wp2_with fail
   refine(Z5 _ frag _ _ HF10.o (Ze (by decide)) (by omega) HPF.o).mono ?_
   rintro e w11 ⟨t,rfl,ht,hn11⟩;have HT:=A (show tl t=encoded frag ZCj from ht);have HB11:=A (HB10.o.on hn11);have HR11:=A (HR10.o.on hn11);have HBT11:=A (HBT10.o.then (But.nx hn11));clear ht hn11;obtain⟨k0,k1,k2,k3,k4,k5,k6,k7,k8,k9,k10,k11,k12⟩:=HB11.o.cells;have f12:=HB11.o.free 12;have HB12:=A (HB11.o.s12 t);have HBT12:=A (show But rb w (w11.setCell ⟨rb,12,none⟩ (J t))from HBT11.o.set 12 _);have hkp:Kp 130 w11 (w11.setCell ⟨rb,12,none⟩ (J t)):=But.kp ((But.refl rb w11).set 12 _) HB11.o;have HR12:=A (HR11.o.kp hkp);clear hkp;go_wp2;go_ret2
   exact Xc ⟨by rw[HE.o],rb,_,_,rfl,HB12.o,by rw[HE.o];exact { HR12.o with eq:=by rw[<-HIE.o,<-HT.o];rfl },hrbw,HBT12.o.below hrbw (Xb _)⟩
def ZA5(m:RU):List UInt8:=if 0<=m.port then m.htx++[58]++dec m.port.toNat else m.htx
def ZA1(m:RU):List UInt8:=m.bl++Zc9 m.path
def ZB7(m:RU):List UInt8:=if m.user=[]/\m.pass=[]then []else if m.pass=[]then m.user++[64]else m.user++[58]++m.pass++[64]
def ZAT(m:RU):List UInt8:=if m.his=true then [47,47]++ZB7 m++ZA5 m else if 1<m.path.length/\m.path.getD 0 []=[]then [47,46]else []
def ZC1(m:RU):List UInt8:=m.sch++[58]++ZAT m++ZA1 m++(if m.hq=true then [63]++m.q else [])++(if m.hf=true then [35]++m.fr else [])
def ZMF:List UInt8:=[104,116,116,112]
def ZJJ:List UInt8:=[104,116,116,112,115]
def ZJK:List UInt8:=[110,117,108,108]
def ZIi:List UInt8:=[98,108,111,98]
def ZB8(m:RU):List UInt8:=m.sch++[58,47,47]++ZA5 m
def ZDr(x:RU×Int):List UInt8:=if x.2=0/\(x.1.sch=ZMF∨x.1.sch=ZJJ)then ZB8 x.1 else ZJK
def Zz3(m:RU):List UInt8:=if Zg m.sch=true/\m.sch≠Zzu then ZB8 m else if m.sch=ZIi then ZDr (parseR (ZA1 m) none)else ZJK
def ZIj(c:UInt8)(t:List UInt8):List UInt8:=if t=[]then []else c::t
def ZJL(m:RU):List UInt8:=if 0<=m.port then dec m.port.toNat else []
def ZAL(c:Int):Int:=if c=43 then 32 else c
def ZDs(l:List Int):List UInt8:=Zb (Zl (decoded (Zb (l.map ZAL))))
def ZGp(a:List Int):List UInt8×List UInt8:=(ZDs (cut a [61]).1,ZDs (cut a [61]).2.1)
def ZCV(q:List UInt8):List (List UInt8×List UInt8):=((parts (Zl q) [38]).filter fun a=>!a.isEmpty).map ZGp
def ZEL(m:RU):List (List UInt8×List UInt8):=if m.hq=true then ZCV m.q else []
def ZA9(base:List UInt8)(based:Bool):Option RU×Int:=
 if based=false then(none,0)else if(parseR base none).2=2 then(none,4)else if(parseR base none).2≠0 then(none,(parseR base none).2)else(some (parseR base none).1,0)
def ZDL(l base:List UInt8)(based:Bool):RU×Int:=
 if 160<l.length∨(based=true/\160<base.length)then(zeroR,1)
 else if(ZA9 base based).2≠0 then(zeroR,(ZA9 base based).2)else parseR l (ZA9 base based).1
def ZBr(l:List UInt8):List UInt8:=(l.reverse.dropWhile fun b=>(b.toNat:Int)==32).reverse
def ZDv(m:RU):RU:=if m.op=true/\m.hq=false/\m.hf=false then { m with bl:=ZBr m.bl }else m
theorem ZDR(rb:Nat)(R:RR)(u:RU)(bs:LA)(v:Value)(l:LI)(qb:Nat)(Q:RR)(b:RU)(cs:LA)(w:World)(h:RB w rb R)(hr:RIs w R u bs)(hv:IntsAt w v l)(hl:l.length<=20000)(hp:∀c∈l,Pt c)(hq:RB w qb Q)(hqr:RIs w Q b cs)(hne:qb≠rb)(hcl:cs.length<=70000):Calls prog 200 #[.pointer (some ⟨rb,0,none⟩),v,.pointer (some ⟨qb,0,none⟩)] w fun e w'=>ZGi e w w' rb (ZBh u l b):=by
 unfold ZBh
 by_cases hf:u.sch=Zzu
 .rw[ifP hf]
  exact ZHp rb R u bs v _ l (some b) w h hr hv hl hp (Xc ⟨qb,Q,b,cs,rfl,rfl,hq,hqr,hne,hcl⟩) hf
 .rw[ifN hf]
  exact ZFp rb qb R Q u b bs cs v l w h hr hq hqr hne hf hv hl hcl hp
theorem ZIE(s:BA)(w:World)(hs:s.size<=20000)(hok:(schemeOf (cut (ZzG (tl s)) [35]).1).2.2=false):Calls prog 149 #[J s,.pointer none] w fun e w'=>ZCA e w w' (parseR (tl s) (none)):=by
 have HOK:=A hok;clear hok
 go_enter func149,ntmps149
 go_wp2_with fail
 refine(Zau s _ (by omega)).mono ?_
 rintro e w1 ⟨v1,rfl,h1,hn1⟩;have H1:=A h1;have HN1:=A hn1;clear h1 hn1;go_wp2_with fail
 refine(Zc5 _ (Zl (tl s)) _ H1.o).mono ?_
 rintro e w1' ⟨v2,rfl,h2,rfl⟩;have H2:=A h2;have hpl:=Zaf (tl s);rw[Za]at hpl;have htl:=ZAr (Zl (tl s));clear h2 H1;go_wp2_with fail
 refine(Zf1 _ (trimmed (Zl (tl s))) _ H2.o (by omega)).mono ?_
 rintro e w2 ⟨v3,rfl,h3,hn2⟩;have H3:=A (show IntsAt w2 v3 (ZzG (tl s))from h3);have HN2:=A (HN1.o.then hn2)
 have hll:(ZzG (tl s)).length<=20000:=Xa (ZBD _) (by rw[Za];exact hs)
 have HLP:=A (ZCk (tl s));clear h3 hn2 H2 HN1 hpl htl;have HPD:Hid (parseR (tl s) (none)=ZBi (cut (ZzG (tl s)) [35]).1 (cut (ZzG (tl s)) [35]).2.1 (cut (ZzG (tl s)) [35]).2.2 (none)):=A rfl;generalize ZzG (tl s)=L at *;go_wp2_with fail
 refine(ZbY _ L ⟨#[35]⟩ _ (Ze (by decide)) H3.o).mono ?_
 rintro e w3 ⟨va,vf,rfl,ha,hf,hn3⟩;rw[show tl (⟨#[35]⟩:BA)=[35]from rfl]at *
 have HPA:=A (fun c (h:c∈(cut L [35]).1)=>HLP.o c (Zy (Xd h)))
 have HPF:=A (fun c (h:c∈(cut L [35]).2.1)=>HLP.o c (Zy (Xc h)))
 have hcl:=(Zbc L [35]).1;generalize cut L [35]=cc at *;obtain⟨a,frag,hf⟩:=cc;simp only at *;have HA:=A ha;have HF:=A hf;have HN3:=A (HN2.o.then hn3);clear ha hf hn3 H3 HN2 HLP;have hsl:=ZAy a
 have hsc:=ZAz a (by omega)
 have HPR:=A (fun c (h:c∈(schemeOf a).2.1)=>HPA.o c (ZAa h))
 go_wp2_with fail
 refine(ZAw _ a _ HA.o (by omega) HPA.o).mono ?_
 rintro e w4 ⟨sc,vr,rfl,hsce,hr,hn4⟩;have HSC:=A hsce;have HRT:=A hr;have HN4:=A (HN3.o.then hn4);have HF4:=A (HF.o.on hn4);have HA4:=A (HA.o.on hn4)
 have hscs:sc.size<=1000000:=by rw[<-Za,hsce];exact hsc
 clear hsce hr hn4 HN3 HF HA hsc;rw[HOK.o]
 have HD:=A (HPD.o.trans (show ZBi a frag hf none=(zeroR,2)from ifN (by rw[HOK.o];decide)))
 clear HPD HOK HA4 HF4 HRT HPR HPA HPF;go_wp2;go_ret2
 exact Xd ⟨by rw[HD.o];decide,by rw[HD.o];rfl,HN4.o⟩
theorem ZFI(s:BA)(qb:Nat)(Q:RR)(b:RU)(cs:LA)(w:World)(hs:s.size<=20000)(hq0:RB w qb Q)(hqr0:RIs w Q b cs)(hcs:cs.length<=70000)(hop:b.op=true)(hok:(schemeOf (cut (ZzG (tl s)) [35]).1).2.2=false)(hno:(cut (ZzG (tl s)) [35]).1≠[]∨(cut (ZzG (tl s)) [35]).2.2=false):Calls prog 149 #[J s,.pointer (some ⟨qb,0,none⟩)] w fun e w'=>ZCA e w w' (parseR (tl s) (some b)):=by
 have HBB:Hid (BaseW w (.pointer (some ⟨qb,0,none⟩)) (some b)):=A (Xc ⟨qb,Q,b,cs,rfl,rfl,hq0,hqr0,hcs⟩);have HQB:=A hq0;have HQR:=A hqr0
 have HQO:=A (show Q.op=true by rw[<-hop,<-hqr0.eq];rfl)
 have HBO:=A hop;have HOK:=A hok;clear hq0 hqr0 hop hok;have HNO:=A hno;clear hno
 go_enter func149,ntmps149
 go_wp2_with fail
 refine(Zau s _ (by omega)).mono ?_
 rintro e w1 ⟨v1,rfl,h1,hn1⟩;have H1:=A h1;have HN1:=A hn1;clear h1 hn1;go_wp2_with fail
 refine(Zc5 _ (Zl (tl s)) _ H1.o).mono ?_
 rintro e w1' ⟨v2,rfl,h2,rfl⟩;have H2:=A h2;have hpl:=Zaf (tl s);rw[Za]at hpl;have htl:=ZAr (Zl (tl s));clear h2 H1;go_wp2_with fail
 refine(Zf1 _ (trimmed (Zl (tl s))) _ H2.o (by omega)).mono ?_
 rintro e w2 ⟨v3,rfl,h3,hn2⟩;have H3:=A (show IntsAt w2 v3 (ZzG (tl s))from h3);have HN2:=A (HN1.o.then hn2)
 have hll:(ZzG (tl s)).length<=20000:=Xa (ZBD _) (by rw[Za];exact hs)
 have HLP:=A (ZCk (tl s));clear h3 hn2 H2 HN1 hpl htl;have HPD:Hid (parseR (tl s) (some b)=ZBi (cut (ZzG (tl s)) [35]).1 (cut (ZzG (tl s)) [35]).2.1 (cut (ZzG (tl s)) [35]).2.2 (some b)):=A rfl;generalize ZzG (tl s)=L at *;go_wp2_with fail
 refine(ZbY _ L ⟨#[35]⟩ _ (Ze (by decide)) H3.o).mono ?_
 rintro e w3 ⟨va,vf,rfl,ha,hf,hn3⟩;rw[show tl (⟨#[35]⟩:BA)=[35]from rfl]at *
 have HPA:=A (fun c (h:c∈(cut L [35]).1)=>HLP.o c (Zy (Xd h)))
 have HPF:=A (fun c (h:c∈(cut L [35]).2.1)=>HLP.o c (Zy (Xc h)))
 have hcl:=(Zbc L [35]).1;generalize cut L [35]=cc at *;obtain⟨a,frag,hf⟩:=cc;simp only at *;have HA:=A ha;have HF:=A hf;have HN3:=A (HN2.o.then hn3);clear ha hf hn3 H3 HN2 HLP;have hsl:=ZAy a
 have hsc:=ZAz a (by omega)
 have HPR:=A (fun c (h:c∈(schemeOf a).2.1)=>HPA.o c (ZAa h))
 go_wp2_with fail
 refine(ZAw _ a _ HA.o (by omega) HPA.o).mono ?_
 rintro e w4 ⟨sc,vr,rfl,hsce,hr,hn4⟩;have HSC:=A hsce;have HRT:=A hr;have HN4:=A (HN3.o.then hn4);have HF4:=A (HF.o.on hn4);have HA4:=A (HA.o.on hn4)
 have hscs:sc.size<=1000000:=by rw[<-Za,hsce];exact hsc
 clear hsce hr hn4 HN3 HF HA hsc;have HQ4:=A (HQB.o.on HN4.o);have HQR4:=A (HQR.o.on HN4.o);have q7:=HQ4.o.cells.2.2.2.2.2.2.2.1;rw[HQO.o]at q7;have hqlt:=HQ4.o.lt;rw[HOK.o]
 have HD:=A (HPD.o.trans (show ZBi a frag hf (some b)=(zeroR,2)from(ifN (by rw[HOK.o];decide)).trans ((ifP HBO.o).trans (ifP HNO.o))))
 have hcase:(((a.length:Int)==0)=false/\0<a.length)∨hf=false:=by
  rcases HNO.o with h|h
  .have hpos:0<a.length:=by cases a with|nil=>exact absurd rfl h|cons _ _=>simp
   exact Xd ⟨beq_eq_false_iff_ne.2 (by omega),hpos⟩
  .exact Xc h
 obtain⟨ao,acap,hae,-⟩:=HA4.o;subst hae;clear HPD HOK HA4 HF4 HRT HPR HPA HPF HNO HBB HQR4 HQ4;rcases hcase with⟨hc,hpos⟩|rfl
 rotate_left
 focus
  rcases Nat.eq_zero_or_pos a.length with hz|hpos
  focus
   rw[hz];clear hz
  rotate_left
 all_goals
  go_wp2;go_ret2
  exact Xd ⟨by rw[HD.o];decide,by rw[HD.o];rfl,HN4.o⟩
theorem ZEP(s:BA)(qb:Nat)(Q:RR)(b:RU)(cs:LA)(w:World)(hs:s.size<=20000)(hq0:RB w qb Q)(hqr0:RIs w Q b cs)(hcs:cs.length<=70000)(hop:b.op=true)(hok:(schemeOf (cut (ZzG (tl s)) [35]).1).2.2=false)(hno:(cut (ZzG (tl s)) [35]).1=[]/\(cut (ZzG (tl s)) [35]).2.2=true):Calls prog 149 #[J s,.pointer (some ⟨qb,0,none⟩)] w fun e w'=>ZCA e w w' (parseR (tl s) (some b)):=by
 have HBB:Hid (BaseW w (.pointer (some ⟨qb,0,none⟩)) (some b)):=A (Xc ⟨qb,Q,b,cs,rfl,rfl,hq0,hqr0,hcs⟩);have HQB:=A hq0;have HQR:=A hqr0
 have HQO:=A (show Q.op=true by rw[<-hop,<-hqr0.eq];rfl)
 have HBO:=A hop;have HOK:=A hok;clear hq0 hqr0 hop hok;have HNO:=A hno;clear hno
 go_enter func149,ntmps149
 go_wp2_with fail
 refine(Zau s _ (by omega)).mono ?_
 rintro e w1 ⟨v1,rfl,h1,hn1⟩;have H1:=A h1;have HN1:=A hn1;clear h1 hn1;go_wp2_with fail
 refine(Zc5 _ (Zl (tl s)) _ H1.o).mono ?_
 rintro e w1' ⟨v2,rfl,h2,rfl⟩;have H2:=A h2;have hpl:=Zaf (tl s);rw[Za]at hpl;have htl:=ZAr (Zl (tl s));clear h2 H1;go_wp2_with fail
 refine(Zf1 _ (trimmed (Zl (tl s))) _ H2.o (by omega)).mono ?_
 rintro e w2 ⟨v3,rfl,h3,hn2⟩;have H3:=A (show IntsAt w2 v3 (ZzG (tl s))from h3);have HN2:=A (HN1.o.then hn2)
 have hll:(ZzG (tl s)).length<=20000:=Xa (ZBD _) (by rw[Za];exact hs)
 have HLP:=A (ZCk (tl s));clear h3 hn2 H2 HN1 hpl htl;have HPD:Hid (parseR (tl s) (some b)=ZBi (cut (ZzG (tl s)) [35]).1 (cut (ZzG (tl s)) [35]).2.1 (cut (ZzG (tl s)) [35]).2.2 (some b)):=A rfl;generalize ZzG (tl s)=L at *;go_wp2_with fail
 refine(ZbY _ L ⟨#[35]⟩ _ (Ze (by decide)) H3.o).mono ?_
 rintro e w3 ⟨va,vf,rfl,ha,hf,hn3⟩;rw[show tl (⟨#[35]⟩:BA)=[35]from rfl]at *
 have HPA:=A (fun c (h:c∈(cut L [35]).1)=>HLP.o c (Zy (Xd h)))
 have HPF:=A (fun c (h:c∈(cut L [35]).2.1)=>HLP.o c (Zy (Xc h)))
 have hcl:=(Zbc L [35]).1;generalize cut L [35]=cc at *;obtain⟨a,frag,hf⟩:=cc;simp only at *;have HA:=A ha;have HF:=A hf;have HN3:=A (HN2.o.then hn3);clear ha hf hn3 H3 HN2 HLP;have hsl:=ZAy a
 have hsc:=ZAz a (by omega)
 have HPR:=A (fun c (h:c∈(schemeOf a).2.1)=>HPA.o c (ZAa h))
 go_wp2_with fail
 refine(ZAw _ a _ HA.o (by omega) HPA.o).mono ?_
 rintro e w4 ⟨sc,vr,rfl,hsce,hr,hn4⟩;have HSC:=A hsce;have HRT:=A hr;have HN4:=A (HN3.o.then hn4);have HF4:=A (HF.o.on hn4);have HA4:=A (HA.o.on hn4)
 have hscs:sc.size<=1000000:=by rw[<-Za,hsce];exact hsc
 clear hsce hr hn4 HN3 HF HA hsc;have HQ4:=A (HQB.o.on HN4.o);have HQR4:=A (HQR.o.on HN4.o);have q7:=HQ4.o.cells.2.2.2.2.2.2.2.1;rw[HQO.o]at q7;have hqlt:=HQ4.o.lt;rw[HOK.o]
 have HD:=A (HPD.o.trans (show ZBi a frag hf (some b)=({ zeroR with sch:=b.sch,op:=true,bl:=b.bl,hq:=b.hq,q:=b.q,hf:=true,fr:=encoded frag ZCj },0)by
  have h1:ZBi a frag hf (some b)=ZIa ({ zeroR with sch:=b.sch,op:=true,bl:=b.bl,hq:=b.hq,q:=b.q },0) hf frag:=(ifN (by rw[HOK.o];decide)).trans ((ifP HBO.o).trans (ifN (by rintro(g|g);exact g HNO.o.1;rw[HNO.o.2]at g;cases g)))
  rw[h1,HNO.o.2]
  rfl))
 have hal:(a.length:Int)=0:=by rw[HNO.o.1];rfl
 have hft:=HNO.o.2;subst hft;obtain⟨ao,acap,hae,-⟩:=HA4.o;subst hae
 rw[show a.length=0 by omega]
 have hqs:Q.sch.size<=1000000:=HQR.o.lsch;clear HPD HOK HA4 HNO hal;go_upto_region 13 with fail;obtain⟨rb,hrb⟩:∃rb,rb=w4.heap.size:=⟨_,rfl⟩
 have HB5:=A (show RB (w4.alloc (O #[J ⟨#[]⟩,J ⟨#[]⟩,J ⟨#[]⟩,C false,J ⟨#[]⟩,I X (-1),.slice none 0 0,C false,J ⟨#[]⟩,C false,J ⟨#[]⟩,C false,J ⟨#[]⟩] 130)) rb ZBg by rw[hrb];exact ZDm w4)
 have HR5:=A (ZEE (w4.alloc (O #[J ⟨#[]⟩,J ⟨#[]⟩,J ⟨#[]⟩,C false,J ⟨#[]⟩,I X (-1),.slice none 0 0,C false,J ⟨#[]⟩,C false,J ⟨#[]⟩,C false,J ⟨#[]⟩] 130)) (Xa HBB.o.fw (HN4.o.alloc _).size));have HN5:=A (show Nx w (w4.alloc (O #[J ⟨#[]⟩,J ⟨#[]⟩,J ⟨#[]⟩,C false,J ⟨#[]⟩,I X (-1),.slice none 0 0,C false,J ⟨#[]⟩,C false,J ⟨#[]⟩,C false,J ⟨#[]⟩] 130))from HN4.o.alloc _);have HRT5:=A (HRT.o.on (Nx.rfl.alloc (O #[J ⟨#[]⟩,J ⟨#[]⟩,J ⟨#[]⟩,C false,J ⟨#[]⟩,I X (-1),.slice none 0 0,C false,J ⟨#[]⟩,C false,J ⟨#[]⟩,C false,J ⟨#[]⟩] 130)));have HF5:=A (HF4.o.on (Nx.rfl.alloc (O #[J ⟨#[]⟩,J ⟨#[]⟩,J ⟨#[]⟩,C false,J ⟨#[]⟩,I X (-1),.slice none 0 0,C false,J ⟨#[]⟩,C false,J ⟨#[]⟩,C false,J ⟨#[]⟩] 130)))
 have hrbw:w.heap.size<=rb:=by rw[hrb];exact HN4.o.size
 have HNE:=A (show ∀qb' Q',Value.pointer (some ⟨qb,0,none⟩)=.pointer (some ⟨qb',0,none⟩)->RB w qb' Q'->qb'≠rb from fun qb' Q' _ hq e=>by have:=hq.lt;omega)
 rw[<-hrb];clear hrb HRT HF4;generalize (w4.alloc (O #[J ⟨#[]⟩,J ⟨#[]⟩,J ⟨#[]⟩,C false,J ⟨#[]⟩,I X (-1),.slice none 0 0,C false,J ⟨#[]⟩,C false,J ⟨#[]⟩,C false,J ⟨#[]⟩] 130))=w5 at *;have HBT5:=A (show But rb w w5 from But.nx HN5.o)
 have hne:qb≠rb:=fun e=>by have:=HQB.o.lt;omega
 have HQ5:=A (HQB.o.on HN5.o);clear q7 hqlt;obtain⟨k0,k1,k2,k3,k4,k5,k6,k7,k8,k9,k10,k11,k12⟩:=HB5.o.cells;simp only[ZBg]at k0 k1 k2 k3 k4 k5 k6 k7 k8 k9 k10 k11 k12;have f0:=HB5.o.free 0;have f7:=HB5.o.free 7;have f8:=HB5.o.free 8;have f9:=HB5.o.free 9;have f10:=HB5.o.free 10;have g0:=HQ5.o.cells.1;have g8:=(HQ5.o.but (((But.refl rb w5).set 0 (J Q.sch)).set 7 (C true)) hne).cells.2.2.2.2.2.2.2.2.1;have g9:=(HQ5.o.but ((((But.refl rb w5).set 0 (J Q.sch)).set 7 (C true)).set 8 (J Q.bl)) hne).cells.2.2.2.2.2.2.2.2.2.1;have g10:=(HQ5.o.but (((((But.refl rb w5).set 0 (J Q.sch)).set 7 (C true)).set 8 (J Q.bl)).set 9 (C Q.hq)) hne).cells.2.2.2.2.2.2.2.2.2.2.1;go_upto_region 27 with fail;have HB8:=A (((((HB5.o.s0 Q.sch).s7 true).s8 Q.bl).s9 Q.hq).s10 Q.q);have hbt8:But rb w5 (((((w5.setCell ⟨rb,0,none⟩ (J Q.sch)).setCell ⟨rb,7,none⟩ (C true)).setCell ⟨rb,8,none⟩ (J Q.bl)).setCell ⟨rb,9,none⟩ (C Q.hq)).setCell ⟨rb,10,none⟩ (J Q.q)):=((((((But.refl rb w5).set 0 (J Q.sch)).set 7 (C true)).set 8 (J Q.bl)).set 9 (C Q.hq)).set 10 (J Q.q));have HBT8:=A (HBT5.o.then hbt8);have hkp8:=hbt8.kp HB5.o
 have HR8:=A (show RIs (((((w5.setCell ⟨rb,0,none⟩ (J Q.sch)).setCell ⟨rb,7,none⟩ (C true)).setCell ⟨rb,8,none⟩ (J Q.bl)).setCell ⟨rb,9,none⟩ (C Q.hq)).setCell ⟨rb,10,none⟩ (J Q.q)) { ZBg with sch:=Q.sch,op:=true,bl:=Q.bl,hq:=Q.hq,q:=Q.q } { zeroR with sch:=b.sch,op:=true,bl:=b.bl,hq:=b.hq,q:=b.q } []from { HR5.o.kp hkp8 with eq:=by rw[<-HQR.o.eq];rfl,lsch:=hqs })
 have HF8:=A (HF5.o.kp hkp8 (by decide))
 clear k0 k1 k2 k3 k4 k5 k6 k7 k8 k9 k10 k11 k12 f0 f7 f8 f9 f10 g0 g8 g9 g10 hbt8 hkp8 HF5 HR5;generalize (((((w5.setCell ⟨rb,0,none⟩ (J Q.sch)).setCell ⟨rb,7,none⟩ (C true)).setCell ⟨rb,8,none⟩ (J Q.bl)).setCell ⟨rb,9,none⟩ (C Q.hq)).setCell ⟨rb,10,none⟩ (J Q.q))=w8 at *
 obtain⟨y,hy⟩:∃y,y={ zeroR with sch:=b.sch,op:=true,bl:=b.bl,hq:=b.hq,q:=b.q }:=⟨_,rfl⟩
 rw[<-hy]at HR8
 have HD3:=A (show parseR (tl s) (some b)=({ y with hf:=true,fr:=encoded frag ZCj },0)by rw[HD.o,hy])
 clear HD hy;obtain⟨k0,k1,k2,k3,k4,k5,k6,k7,k8,k9,k10,k11,k12⟩:=HB8.o.cells;have f11:=HB8.o.free 11;go_upto_region 30 with fail;have HB10:=A (HB8.o.s11 true);have HBT10:=A (show But rb w (w8.setCell ⟨rb,11,none⟩ (C true))from HBT8.o.set 11 _);have hkp:Kp 130 w8 (w8.setCell ⟨rb,11,none⟩ (C true)):=But.kp ((But.refl rb w8).set 11 _) HB8.o;have HR10:=A (HR8.o.kp hkp)
 have HF10:=A (HF8.o.kp hkp (by decide))
 have HIE:=A HR8.o.eq;clear k0 k1 k2 k3 k4 k5 k6 k7 k8 k9 k10 k11 k12 f11 hkp;generalize (w8.setCell ⟨rb,11,none⟩ (C true))=w10 at *;have HE:=HD3;clear HD3;go_wp2_with fail
 refine(Z5 _ frag _ _ HF10.o (Ze (by decide)) (by omega) HPF.o).mono ?_
 rintro e w11 ⟨t,rfl,ht,hn11⟩;have HT:=A (show tl t=encoded frag ZCj from ht);have HB11:=A (HB10.o.on hn11);have HR11:=A (HR10.o.on hn11);have HBT11:=A (HBT10.o.then (But.nx hn11));clear ht hn11;obtain⟨k0,k1,k2,k3,k4,k5,k6,k7,k8,k9,k10,k11,k12⟩:=HB11.o.cells;have f12:=HB11.o.free 12;have HB12:=A (HB11.o.s12 t);have HBT12:=A (show But rb w (w11.setCell ⟨rb,12,none⟩ (J t))from HBT11.o.set 12 _);have hkp:Kp 130 w11 (w11.setCell ⟨rb,12,none⟩ (J t)):=But.kp ((But.refl rb w11).set 12 _) HB11.o;have HR12:=A (HR11.o.kp hkp);clear hkp;go_wp2;go_ret2
 exact Xc ⟨by rw[HE.o],rb,_,_,rfl,HB12.o,by rw[HE.o];exact { HR12.o with eq:=by rw[<-HIE.o,<-HT.o];rfl },hrbw,HBT12.o.below hrbw (Xb _)⟩
theorem ZKa(s:BA)(qb:Nat)(Q:RR)(b:RU)(cs:LA)(w:World)(hs:s.size<=20000)(hq0:RB w qb Q)(hqr0:RIs w Q b cs)(hcs:cs.length<=70000)(hop:b.op=false)(hok:(schemeOf (cut (ZzG (tl s)) [35]).1).2.2=false):Calls prog 149 #[J s,.pointer (some ⟨qb,0,none⟩)] w fun e w'=>ZCA e w w' (parseR (tl s) (some b)):=by
 have HBB:Hid (BaseW w (.pointer (some ⟨qb,0,none⟩)) (some b)):=A (Xc ⟨qb,Q,b,cs,rfl,rfl,hq0,hqr0,hcs⟩);have HQB:=A hq0;have HQR:=A hqr0
 have HQO:=A (show Q.op=false by rw[<-hop,<-hqr0.eq];rfl)
 have HBO:=A hop;have HOK:=A hok;clear hq0 hqr0 hop hok
 go_enter func149,ntmps149
 go_wp2_with fail
 refine(Zau s _ (by omega)).mono ?_
 rintro e w1 ⟨v1,rfl,h1,hn1⟩;have H1:=A h1;have HN1:=A hn1;clear h1 hn1;go_wp2_with fail
 refine(Zc5 _ (Zl (tl s)) _ H1.o).mono ?_
 rintro e w1' ⟨v2,rfl,h2,rfl⟩;have H2:=A h2;have hpl:=Zaf (tl s);rw[Za]at hpl;have htl:=ZAr (Zl (tl s));clear h2 H1;go_wp2_with fail
 refine(Zf1 _ (trimmed (Zl (tl s))) _ H2.o (by omega)).mono ?_
 rintro e w2 ⟨v3,rfl,h3,hn2⟩;have H3:=A (show IntsAt w2 v3 (ZzG (tl s))from h3);have HN2:=A (HN1.o.then hn2)
 have hll:(ZzG (tl s)).length<=20000:=Xa (ZBD _) (by rw[Za];exact hs)
 have HLP:=A (ZCk (tl s));clear h3 hn2 H2 HN1 hpl htl;have HPD:Hid (parseR (tl s) (some b)=ZBi (cut (ZzG (tl s)) [35]).1 (cut (ZzG (tl s)) [35]).2.1 (cut (ZzG (tl s)) [35]).2.2 (some b)):=A rfl;generalize ZzG (tl s)=L at *;go_wp2_with fail
 refine(ZbY _ L ⟨#[35]⟩ _ (Ze (by decide)) H3.o).mono ?_
 rintro e w3 ⟨va,vf,rfl,ha,hf,hn3⟩;rw[show tl (⟨#[35]⟩:BA)=[35]from rfl]at *
 have HPA:=A (fun c (h:c∈(cut L [35]).1)=>HLP.o c (Zy (Xd h)))
 have HPF:=A (fun c (h:c∈(cut L [35]).2.1)=>HLP.o c (Zy (Xc h)))
 have hcl:=(Zbc L [35]).1;generalize cut L [35]=cc at *;obtain⟨a,frag,hf⟩:=cc;simp only at *;have HA:=A ha;have HF:=A hf;have HN3:=A (HN2.o.then hn3);clear ha hf hn3 H3 HN2 HLP;have hsl:=ZAy a
 have hsc:=ZAz a (by omega)
 have HPR:=A (fun c (h:c∈(schemeOf a).2.1)=>HPA.o c (ZAa h))
 go_wp2_with fail
 refine(ZAw _ a _ HA.o (by omega) HPA.o).mono ?_
 rintro e w4 ⟨sc,vr,rfl,hsce,hr,hn4⟩;have HSC:=A hsce;have HRT:=A hr;have HN4:=A (HN3.o.then hn4);have HF4:=A (HF.o.on hn4);have HA4:=A (HA.o.on hn4)
 have hscs:sc.size<=1000000:=by rw[<-Za,hsce];exact hsc
 clear hsce hr hn4 HN3 HF HA hsc;have HQ4:=A (HQB.o.on HN4.o);have HQR4:=A (HQR.o.on HN4.o);have q7:=HQ4.o.cells.2.2.2.2.2.2.2.1;rw[HQO.o]at q7;have hqlt:=HQ4.o.lt;rw[HOK.o]
 have HD:=A (HPD.o.trans (show ZBi a frag hf (some b)=ZIa (ZHq (schemeOf a).2.1 b) hf frag from(ifN (by rw[HOK.o];decide)).trans (ifN (by rw[HBO.o];decide))))
 unfold ZHq ZDn at HD;have hqs:Q.sch.size<=1000000:=HQR.o.lsch;generalize schemeOf a=sx at *;obtain⟨sch,rest,ok⟩:=sx;simp only at *;clear HPD HOK HA4;go_upto_region 18 with fail;obtain⟨rb,hrb⟩:∃rb,rb=w4.heap.size:=⟨_,rfl⟩
 have HB5:=A (show RB (w4.alloc (O #[J ⟨#[]⟩,J ⟨#[]⟩,J ⟨#[]⟩,C false,J ⟨#[]⟩,I X (-1),.slice none 0 0,C false,J ⟨#[]⟩,C false,J ⟨#[]⟩,C false,J ⟨#[]⟩] 130)) rb ZBg by rw[hrb];exact ZDm w4)
 have HR5:=A (ZEE (w4.alloc (O #[J ⟨#[]⟩,J ⟨#[]⟩,J ⟨#[]⟩,C false,J ⟨#[]⟩,I X (-1),.slice none 0 0,C false,J ⟨#[]⟩,C false,J ⟨#[]⟩,C false,J ⟨#[]⟩] 130)) (Xa HBB.o.fw (HN4.o.alloc _).size));have HN5:=A (show Nx w (w4.alloc (O #[J ⟨#[]⟩,J ⟨#[]⟩,J ⟨#[]⟩,C false,J ⟨#[]⟩,I X (-1),.slice none 0 0,C false,J ⟨#[]⟩,C false,J ⟨#[]⟩,C false,J ⟨#[]⟩] 130))from HN4.o.alloc _);have HRT5:=A (HRT.o.on (Nx.rfl.alloc (O #[J ⟨#[]⟩,J ⟨#[]⟩,J ⟨#[]⟩,C false,J ⟨#[]⟩,I X (-1),.slice none 0 0,C false,J ⟨#[]⟩,C false,J ⟨#[]⟩,C false,J ⟨#[]⟩] 130)));have HF5:=A (HF4.o.on (Nx.rfl.alloc (O #[J ⟨#[]⟩,J ⟨#[]⟩,J ⟨#[]⟩,C false,J ⟨#[]⟩,I X (-1),.slice none 0 0,C false,J ⟨#[]⟩,C false,J ⟨#[]⟩,C false,J ⟨#[]⟩] 130)))
 have hrbw:w.heap.size<=rb:=by rw[hrb];exact HN4.o.size
 have HNE:=A (show ∀qb' Q',Value.pointer (some ⟨qb,0,none⟩)=.pointer (some ⟨qb',0,none⟩)->RB w qb' Q'->qb'≠rb from fun qb' Q' _ hq e=>by have:=hq.lt;omega)
 rw[<-hrb];clear hrb HRT HF4;generalize (w4.alloc (O #[J ⟨#[]⟩,J ⟨#[]⟩,J ⟨#[]⟩,C false,J ⟨#[]⟩,I X (-1),.slice none 0 0,C false,J ⟨#[]⟩,C false,J ⟨#[]⟩,C false,J ⟨#[]⟩] 130))=w5 at *;have HBT5:=A (show But rb w w5 from But.nx HN5.o)
 have hne:qb≠rb:=fun e=>by have:=HQB.o.lt;omega
 have HQ5:=A (HQB.o.on HN5.o);clear q7 hqlt;go_wp2_with fail
 refine(ZbY _ rest ⟨#[63]⟩ _ (Ze (by decide)) HRT5.o).mono ?_
 rintro e w6 ⟨vt,vq,rfl,ht,hqv,hn6⟩;rw[show tl (⟨#[63]⟩:BA)=[63]from rfl]at *
 have HPT:=A (fun c (h:c∈(cut rest [63]).1)=>HPR.o c (Zy (Xd h)))
 have HPQ:=A (fun c (h:c∈(cut rest [63]).2.1)=>HPR.o c (Zy (Xc h)))
 have hcq:=(Zbc rest [63]).1;generalize cut rest [63]=qc at *;obtain⟨tx,qu,hq⟩:=qc;simp only at *;have HTX:=A ht;have HQV:=A hqv;have HB6:=A (HB5.o.on hn6);have HR6:=A (HR5.o.on hn6);have HF6:=A (HF5.o.on hn6);have HBT6:=A (HBT5.o.then (But.nx hn6));have HN6:=A (HN5.o.then hn6);have HQ6:=A (HQ5.o.on hn6);clear ht hqv hn6 HB5 HR5 HF5 HBT5 HRT5 HN5;obtain⟨k0,k1,k2,k3,k4,k5,k6,k7,k8,k9,k10,k11,k12⟩:=HB6.o.cells;have f9:=HB6.o.free 9;have f0:=HB6.o.free 0;simp only[ZBg]at k0 k1 k2 k3 k4 k5 k6 k7 k8 k9 k10 k11 k12;have q0:=(HQ6.o.but ((But.refl rb w6).set 9 (C hq)) hne).cells.1;have q00:=HQ6.o.cells.1;have q77:=HQ6.o.cells.2.2.2.2.2.2.2.1;go_upto_region 24 with fail;have HB7:=A ((HB6.o.s9 hq).s0 Q.sch);have hbt7:But rb w6 ((w6.setCell ⟨rb,9,none⟩ (C hq)).setCell ⟨rb,0,none⟩ (J Q.sch)):=((But.refl rb w6).set 9 _).set 0 _;have HBT7:=A (HBT6.o.then hbt7);have hkp7:=hbt7.kp HB6.o
 have HR7:=A (show RIs ((w6.setCell ⟨rb,9,none⟩ (C hq)).setCell ⟨rb,0,none⟩ (J Q.sch)) { ZBg with hq:=hq,sch:=Q.sch } { zeroR with hq:=hq,sch:=b.sch } []from { HR6.o.kp hkp7 with eq:=by rw[<-HQR.o.usch];rfl,lsch:=hqs })
 have HTX7:=A (HTX.o.kp hkp7 (by decide))
 have HQV7:=A (HQV.o.kp hkp7 (by decide))
 have HF7:=A (HF6.o.kp hkp7 (by decide))
 clear k0 k1 k2 k3 k4 k5 k6 k7 k8 k9 k10 k11 k12 f9 f0 hbt7 hkp7 HTX HQV HF6;generalize ((w6.setCell ⟨rb,9,none⟩ (C hq)).setCell ⟨rb,0,none⟩ (J Q.sch))=w7 at *;have HBS7:=A (HBB.o.is (R:=ZBg) HBT7.o (Xc hrbw) HNE.o);clear q0 q00 q77;have HQ7:=A (HQB.o.but HBT7.o hne);have HQR7:=A (HQR.o.on (HBT7.o.below hrbw (Xb _)));go_wp2_with fail
 refine(ZDR rb _ _ [] _ tx qb Q b cs _ HB7.o HR7.o HTX7.o (by omega) HPT.o HQ7.o HQR7.o hne hcs).mono ?_
 rintro e w8 ⟨rfl,⟨R8,bs8,hB8,hR8⟩,hbt8⟩;have HB8:=A hB8;have HR8:=A hR8;have hkp8:=hbt8.kp HB7.o
 have HF8:=A (HF7.o.kp hkp8 (by decide))
 have HQ8:=A (HQV7.o.kp hkp8 (by decide))
 have HBT8:=A (HBT7.o.then hbt8);clear hB8 hR8 hbt8 hkp8
 generalize ZBh { zeroR with hq:=hq,sch:=b.sch } tx b=x at *
 obtain⟨y,err⟩:=x;simp only at HR8
 cases hq
 focus
  have HD1:=A (show parseR (tl s) (some b)=ZIa (y,err) hf frag by rw[HD.o,queried,ifN (by decide)])
  clear HD;go_upto_region 27 with fail
  have HD2:=A (show parseR (tl s) (some b)=if err≠0 then(zeroR,err)else({ y with hf:=hf,fr:=if hf=true then encoded frag ZCj else y.fr },0)from HD1.o)
  clear HD1
  by_cases he:err=0
  focus
   subst he
   have HD3:=A (HD2.o.trans (ifN (by intro x;exact x rfl)))
   clear HD2;obtain⟨k0,k1,k2,k3,k4,k5,k6,k7,k8,k9,k10,k11,k12⟩:=HB8.o.cells;have f11:=HB8.o.free 11;go_upto_region 30 with fail;have HB10:=A (HB8.o.s11 hf);have HBT10:=A (show But rb w (w8.setCell ⟨rb,11,none⟩ (C hf))from HBT8.o.set 11 _);have hkp:Kp 130 w8 (w8.setCell ⟨rb,11,none⟩ (C hf)):=But.kp ((But.refl rb w8).set 11 _) HB8.o;have HR10:=A (HR8.o.kp hkp)
   have HF10:=A (HF8.o.kp hkp (by decide))
   have HIE:=A HR8.o.eq;clear k0 k1 k2 k3 k4 k5 k6 k7 k8 k9 k10 k11 k12 f11 hkp;generalize (w8.setCell ⟨rb,11,none⟩ (C hf))=w10 at *
  rotate_left
  .have he1:(err==0)=false:=beq_eq_false_iff_ne.2 he
   have he2:(err != 0)=true:=bne_iff_ne.2 he;have HE:=A (HD2.o.trans (ifP he));have HER:=A he;clear he HD2;go_wp2;go_ret2
   exact Xd ⟨by rw[HE.o];exact HER.o,by rw[HE.o];rfl,HBT8.o.below hrbw (Xb _)⟩
 rotate_left
 focus
  have HD1:=A (show parseR (tl s) (some b)=ZIa ({ y with q:=encoded qu (tl (Zpc (Zg y.sch))) },err) hf frag by rw[HD.o,queried,ifP rfl])
  clear HD;have k0:=HB8.o.cells.1;go_wp2_with fail
  refine(Zip _ qu R8.sch _ HQ8.o (by omega) HPQ.o).mono ?_
  rintro e w9 ⟨t9,rfl,ht9,hn9⟩
  have HT9:=A (show tl t9=encoded qu (tl (Zpc (Zg y.sch)))by rw[<-HR8.o.usch];exact ht9)
  have HB9:=A (HB8.o.on hn9);have HR9:=A (HR8.o.on hn9);have HF9:=A (HF8.o.on hn9);have HBT9:=A (HBT8.o.then (But.nx hn9));clear ht9 hn9 k0 HB8 HR8 HF8 HBT8 HQ8;obtain⟨k0,k1,k2,k3,k4,k5,k6,k7,k8,k9,k10,k11,k12⟩:=HB9.o.cells;have f10:=HB9.o.free 10;go_upto_region 27 with fail;have HB9a:=A (HB9.o.s10 t9);have HBT9a:=A (show But rb w (w9.setCell ⟨rb,10,none⟩ (J t9))from HBT9.o.set 10 _);have hkp:Kp 130 w9 (w9.setCell ⟨rb,10,none⟩ (J t9)):=But.kp ((But.refl rb w9).set 10 _) HB9.o
  have HR9a:=A (show RIs (w9.setCell ⟨rb,10,none⟩ (J t9)) { R8 with q:=t9 } { y with q:=encoded qu (tl (Zpc (Zg y.sch))) } bs8 from { HR9.o.kp hkp with eq:=by rw[<-HT9.o,<-HR9.o.eq];rfl })
  have HF9a:=A (HF9.o.kp hkp (by decide))
  clear k0 k1 k2 k3 k4 k5 k6 k7 k8 k9 k10 k11 k12 f10 hkp HB9 HR9 HF9 HBT9;generalize (w9.setCell ⟨rb,10,none⟩ (J t9))=w9a at *
  obtain⟨y2,hy2⟩:∃y2,y2={ y with q:=encoded qu (tl (Zpc (Zg y.sch))) }:=⟨_,rfl⟩
  rw[<-hy2]at HD1 HR9a;clear hy2 HT9;obtain⟨y,hyy⟩:∃y,y=y2:=⟨_,rfl⟩;subst hyy
  have HD2:=A (show parseR (tl s) (some b)=if err≠0 then(zeroR,err)else({ y with hf:=hf,fr:=if hf=true then encoded frag ZCj else y.fr },0)from HD1.o)
  clear HD1
  by_cases he:err=0
  focus
   subst he
   have HD3:=A (HD2.o.trans (ifN (by intro x;exact x rfl)))
   clear HD2;obtain⟨k0,k1,k2,k3,k4,k5,k6,k7,k8,k9,k10,k11,k12⟩:=HB9a.o.cells;have f11:=HB9a.o.free 11;go_upto_region 30 with fail;have HB10:=A (HB9a.o.s11 hf);have HBT10:=A (show But rb w (w9a.setCell ⟨rb,11,none⟩ (C hf))from HBT9a.o.set 11 _);have hkp:Kp 130 w9a (w9a.setCell ⟨rb,11,none⟩ (C hf)):=But.kp ((But.refl rb w9a).set 11 _) HB9a.o;have HR10:=A (HR9a.o.kp hkp)
   have HF10:=A (HF9a.o.kp hkp (by decide))
   have HIE:=A HR9a.o.eq;clear k0 k1 k2 k3 k4 k5 k6 k7 k8 k9 k10 k11 k12 f11 hkp;generalize (w9a.setCell ⟨rb,11,none⟩ (C hf))=w10 at *
  rotate_left
  .have he1:(err==0)=false:=beq_eq_false_iff_ne.2 he
   have he2:(err != 0)=true:=bne_iff_ne.2 he;have HE:=A (HD2.o.trans (ifP he));have HER:=A he;clear he HD2;go_wp2;go_ret2
   exact Xd ⟨by rw[HE.o];exact HER.o,by rw[HE.o];rfl,HBT9a.o.below hrbw (Xb _)⟩
 all_goals
  cases hf
  .have HE:=A (show parseR (tl s) (some b)=({ y with hf:=false },0)by rw[HD3.o,ifN (by decide)])
   clear HD3;go_wp2;go_ret2
   exact Xc ⟨by rw[HE.o],rb,_,_,rfl,HB10.o,by rw[HE.o];exact { HR10.o with eq:=by rw[<-HIE.o];rfl },hrbw,HBT10.o.below hrbw (Xb _)⟩
  .have HE:=A (show parseR (tl s) (some b)=({ y with hf:=true,fr:=encoded frag ZCj },0)by rw[HD3.o,ifP rfl])
   clear HD3;go_wp2_with fail
   refine(Z5 _ frag _ _ HF10.o (Ze (by decide)) (by omega) HPF.o).mono ?_
   rintro e w11 ⟨t,rfl,ht,hn11⟩;have HT:=A (show tl t=encoded frag ZCj from ht);have HB11:=A (HB10.o.on hn11);have HR11:=A (HR10.o.on hn11);have HBT11:=A (HBT10.o.then (But.nx hn11));clear ht hn11;obtain⟨k0,k1,k2,k3,k4,k5,k6,k7,k8,k9,k10,k11,k12⟩:=HB11.o.cells;have f12:=HB11.o.free 12;have HB12:=A (HB11.o.s12 t);have HBT12:=A (show But rb w (w11.setCell ⟨rb,12,none⟩ (J t))from HBT11.o.set 12 _);have hkp:Kp 130 w11 (w11.setCell ⟨rb,12,none⟩ (J t)):=But.kp ((But.refl rb w11).set 12 _) HB11.o;have HR12:=A (HR11.o.kp hkp);clear hkp;go_wp2;go_ret2
   exact Xc ⟨by rw[HE.o],rb,_,_,rfl,HB12.o,by rw[HE.o];exact { HR12.o with eq:=by rw[<-HIE.o,<-HT.o];rfl },hrbw,HBT12.o.below hrbw (Xb _)⟩
theorem ZBV(s:BA)(bv:Value)(ob:Option RU)(w:World)(hs:s.size<=20000)(hb:BaseW w bv ob):Calls prog 149 #[J s,bv] w fun e w'=>ZCA e w w' (parseR (tl s) ob):=by
 cases hok:(schemeOf (cut (ZzG (tl s)) [35]).1).2.2
 .rcases hb with⟨rfl,rfl,-⟩|⟨qb,Q,b,cs,rfl,rfl,hq,hqr,hcl⟩
  .exact ZIE s w hs hok
  .cases hop:b.op
   .exact ZKa s qb Q b cs w hs hq hqr hcl hop hok
   .by_cases hno:(cut (ZzG (tl s)) [35]).1=[]/\(cut (ZzG (tl s)) [35]).2.2=true
    .exact ZEP s qb Q b cs w hs hq hqr hcl hop hok hno
    .refine ZFI s qb Q b cs w hs hq hqr hcl hop hok ?_
     by_cases h1:(cut (ZzG (tl s)) [35]).1=[]
     .right
      cases h2:(cut (ZzG (tl s)) [35]).2.2 with
      | false=>rfl
      | true=>exact absurd ⟨h1,h2⟩ hno
     .exact Xd h1
 .exact ZJA s bv ob w hs hb hok
def ZAC(l:List Int)(k:Nat):List Int:=(l.take k).map ZAL++l.drop k
theorem ZIF(l:LI)(k:Nat):(ZAC l k).length=l.length:=by simp[ZAC];omega
theorem ZGD(l:LI):ZAC l 0=l:=by simp[ZAC]
theorem ZIG(l:LI)(k:Nat)(h:l.length<=k):ZAC l k=l.map ZAL:=by simp[ZAC,Xi h,List.drop_of_length_le h]
theorem ZEi(l:LI)(k:Nat)(h:k<l.length):(ZAC l k)[k]?=some l[k]:=by
 unfold ZAC
 rw[List.getElem?_append_right (by simp;omega)]
 simp only[Xf,List.length_take,List.getElem?_drop]
 rw[show k+(k-min k l.length)=k by omega,Xg h]
theorem ZDE(l:LI)(k:Nat)(h:k<l.length):ZAC l (k+1)=(ZAC l k).set k (ZAL l[k]):=by
 have hlen:((l.take k).map ZAL).length=k:=by simp;omega
 unfold ZAC
 rw[Xh h,List.drop_eq_getElem_cons h,List.set_append,ifN (by omega),hlen,Nat.sub_self,List.set_cons_zero,Xm,List.append_assoc]
 rfl
theorem ZGE(l:LI)(k:Nat)(h:k<l.length)(hc:ZAL l[k]=l[k]):ZAC l (k+1)=ZAC l k:=by
 rw[ZDE l k h,hc];have h1:=ZEi l k h
 have hk:k<(ZAC l k).length:=by rw[ZIF];exact h
 rw[Xg hk]at h1;rw[<-Option.some.inj h1,List.set_getElem_self]
theorem ZKb{c:Int}(h:Pt c):Pt (ZAL c):=by
 unfold ZAL
 split
 .exact⟨by decide,by decide⟩
 .exact h
theorem ZAQ{s:BA}{l:LB}{n:Nat}(h:tl s=l)(hn:l.length<=n):s.size<=n:=by rw[<-Za,h];exact hn
theorem ZIH{w:World}{base:Nat}{v:Value}{l:LI}(h:OwnI w base v l):∃ao cp,v=.slice ao l.length cp:=by obtain⟨ao,cp,h,-⟩:=h.ints;exact⟨ao,cp,h⟩
theorem ZEj(v:Value)(l:LI)(w:World)(hv:IntsAt w v l)(hl:l.length<=100000)(hp:∀c∈l,Pt c):Calls prog 234 #[v] w fun e w'=>∃r:BA,e=Y (J r)/\tl r=ZDs l/\Nx w w':=by
 have HP:=A hp
 have HPM:=A (show ∀c∈l.map ZAL,Pt c from fun c hc=>by obtain⟨x,hx,rfl⟩:=Xn.1 hc;exact ZKb (hp x hx))
 have key:∀(w2:World) (v':Value),OwnI w2 w.heap.size v' l->Nx w w2->True:=fun _ _ _ _=>trivial
 clear key hp
 have hcase:(v=.slice none 0 0/\l=[])∨∃b off cap,v=.slice (some ⟨b,off,none⟩) l.length cap/\RowAt 3 (Value.int .i64) w b off l:=by
  obtain⟨ao,cap,rfl,hlc,hcap,hnone,hsome⟩:=hv
  cases ao with
  | none=>obtain⟨rfl,rfl⟩:=hnone rfl;exact Xd ⟨rfl,rfl⟩
  | some a=>obtain⟨b,off,rfl,hr⟩:=hsome a rfl;exact Xc ⟨b,off,cap,rfl,hr⟩
 clear hv;obtain⟨i0,hi0,-,-,-⟩:=info_parts ZfA;rcases hcase with⟨rfl,rfl⟩|⟨b,off,cap,rfl,hrow⟩
 all_goals go_enter func234,ntmps234
 .go_upto_region 2 with(at_builtin;go_must (refine wpList_append_own_none rfl _ _ 124 rfl w.heap.size 3 i0 1 underlying124 hi0 (.slice none 0 0) 0 [] rfl (World.ownsRow_nil _ _ _ _) rfl ?_))
  go_wp2
  go_loop [4] (fun i=>i=I X 0) (fun _=>0)
  case atStart=>exact rfl
  case round=>
   subst hrel;go_wp2_with fail
   refine(ZbB (.slice none 0 0) [] _ (SlAt.nil _) (by decide) (fun c hc=>by cases hc)).mono ?_
   rintro e w1 ⟨r1,rfl,hr1,hn1⟩;have HR1:=A hr1;have HN1:=A hn1
   have hs1:r1.size<=0:=ZAQ hr1 (by decide)
   clear hr1 hn1;go_wp2_with fail
   refine(ZfB 0 r1 _ hs1 (by decide)).mono ?_
   rintro e w2 ⟨r2,rfl,hr2,hn2⟩;have HR2:=A hr2;have HN2:=A (HN1.o.then hn2)
   have hs2:r2.size<=0:=ZAQ hr2 (Xa (Zc6 _) (by rw[HR1.o];decide))
   clear hr2 hn2;go_wp2_with fail
   refine(Zau r2 _ (by omega)).mono ?_
   rintro e w3 ⟨v3,rfl,h3,hn3⟩;have H3:=A h3;have HN3:=A (HN2.o.then hn3);have hpl:=Zaf (tl r2);rw[Za]at hpl;clear h3 hn3;go_wp2_with fail
   refine(ZbB v3 _ _ H3.o (by omega) (fun c hc=>Zcy _ c hc)).mono ?_
   rintro e w4 ⟨r4,rfl,hr4,hn4⟩;have HR4:=A hr4;have HN4:=A (HN3.o.then hn4);clear hr4 hn4;go_wp2;go_ret
   exact⟨r4,rfl,by rw[HR4.o,HR2.o,HR1.o];rfl,HN4.o⟩
 .have HARM:=A (show ∀j u,(l.map (Value.int .i64))[j]?=some u->w.cell? ((⟨b,off,none⟩:Addr).add j)=some u from fun j u hu=>by
   rw[Addr.add_lit]
   have hj:j<l.length:=by have:=(List.getElem?_eq_some_iff.1 hu).1;simpa using this
   rw[hrow.cell hj]
   simp[Xg hj]at hu
   rw[<-hu])
  have HLM:=A (show(l.map (Value.int .i64)).length=l.length by rw[Xf])
  have HONE:=A (show ∀u∈l.map (Value.int .i64),u.oneCell'=true by intro u hu;obtain⟨x,_,rfl⟩:=Xn.1 hu;rfl)
  clear hrow
  go_upto_region 2 with(at_builtin;go_must (refine ZdC w 124 3 (I X 0) 8 underlying124 ZfA rfl rfl _ _ rfl w.heap.size (.slice none 0 0) 0 [] rfl (World.ownsRow_nil _ _ _ _) ⟨b,off,none⟩ l.length cap (l.map (Value.int .i64)) rfl HLM.o HARM.o HONE.o (by omega) (by decide) (Xb _) ?_;intro v' w2 ho2 hb2 _;rw[Nat.zero_add,List.nil_append]at ho2;have HO:=A ho2;have HN0:=A (show Nx w w2 from hb2);clear ho2 hb2;obtain⟨ao,cp,rfl⟩:=ZIH HO.o))
  go_wp2
  go_loopw [4] (fun i wr=>∃k:Nat,k<=l.length/\i=I X k/\wr.ownsRow w.heap.size 3 1 (.slice ao l.length cp) l.length ((ZAC l k).map (Value.int .i64))/\Nx w wr) (fun i _=>l.length-(intOf i).toNat)
  case atStart=>exact⟨0,Xk _,rfl,by rw[ZGD];exact HO.o,HN0.o⟩
  case round=>
   obtain⟨k,hk,rfl,hown,hnx⟩:=hrel;have HN:=A hnx;clear hnx HO HN0
   by_cases hlt:k<l.length
   .obtain⟨g,rfl,hg⟩:∃g,ao=some ⟨g,0,none⟩/\w.heap.size<=g:=by
     rcases hown.2 with⟨h1,h2⟩|⟨g,cap',cur,h1,h2,-⟩
     .omega
     .simp only[Value.slice.injEq]at h1;exact⟨g,h1.1,h2⟩
    have hc:=hown.cellAt k (by omega)
    rw[List.getElem?_map,ZEi l k hlt]at hc;simp only[Option.map]at hc;have hf:=hown.frozenAt k;have HST:=A (hown.stored k (I X 32)).1;have HOW:=A hown;clear hown
    by_cases hit:l[k]=43
    .have hit':(l[k]==43)=true:=by rw[hit];rfl
     have HE:=A (show(ZAC l (k+1)).map (Value.int .i64)=((ZAC l k).map (Value.int .i64)).set k (I X 32)by rw[ZDE l k hlt,List.map_set];unfold ZAL;rw[ifP hit])
     clear hit;go_wp2
     go_roundw
     exact⟨k+1,by omega,by go_num,by rw[HE.o];exact HST.o,HN.o.setCell hg _⟩
     simp[intOf];omega
    .have hit':(l[k]==43)=false:=beq_eq_false_iff_ne.2 hit
     have HE:=A (ZGE l k hlt (by unfold ZAL;rw[ifN hit]))
     clear hit HST;go_wp2
     go_roundw
     exact⟨k+1,by omega,by go_num,by rw[HE.o];exact HOW.o,HN.o⟩
     simp[intOf];omega
   .rw[ZIG l k (by omega)]at hown
    have HI:=A (show IntsAt _ (.slice ao l.length cp) (l.map ZAL)from by
     have h:=Zcf (f:=Value.int .i64) (l:=l.map ZAL) (by rw[Xf];exact hown)
     exact h)
    have hll:(l.map ZAL).length=l.length:=Xf ..;have hbl:=Za9 (l.map ZAL);clear hown;go_wp2_with fail
    refine(ZbB _ (l.map ZAL) _ HI.o (by omega) HPM.o).mono ?_
    rintro e w1 ⟨r1,rfl,hr1,hn1⟩;have HR1:=A hr1;have HN1:=A (HN.o.then hn1)
    have hs1:r1.size<=400000:=ZAQ hr1 (by omega)
    clear hr1 hn1;go_wp2_with fail
    refine(ZfB 400000 r1 _ hs1 (by decide)).mono ?_
    rintro e w2 ⟨r2,rfl,hr2,hn2⟩;have HR2:=A hr2;have HN2:=A (HN1.o.then hn2)
    have hs2:r2.size<=400000:=ZAQ hr2 (Xa (Zc6 _) (by rw[Za];exact hs1))
    clear hr2 hn2;go_wp2_with fail
    refine(Zau r2 _ (by omega)).mono ?_
    rintro e w3 ⟨v3,rfl,h3,hn3⟩;have H3:=A h3;have HN3:=A (HN2.o.then hn3);have hpl:=Zaf (tl r2);rw[Za]at hpl;clear h3 hn3;go_wp2_with fail
    refine(ZbB v3 _ _ H3.o (by omega) (fun c hc=>Zcy _ c hc)).mono ?_
    rintro e w4 ⟨r4,rfl,hr4,hn4⟩;have HR4:=A hr4;have HN4:=A (HN3.o.then hn4);clear hr4 hn4;go_wp2;go_ret
    exact⟨r4,rfl,by rw[HR4.o,HR2.o,HR1.o];rfl,HN4.o⟩
structure RL (R:RR):Prop where
 user:R.user.size<=300000
 pass:R.pass.size<=300000
 htx:R.htx.size<=300000
 port:R.port<=65535
 bl:R.bl.size<=300000
 q:R.q.size<=300000
 fr:R.fr.size<=300000
theorem ZAt(rb:Nat)(R:RR)(u:RU)(bs:LA)(w:World)(h:RB w rb R)(hr:RIs w R u bs)(hl:R.htx.size<=300000)(hp:R.port<=65535):Calls prog 115 #[.pointer (some ⟨rb,0,none⟩)] w fun e w'=>∃t:BA,e=Y (J t)/\tl t=ZA5 u/\t.size<=400000/\Nx w w':=by
 have HD:=A (show ZA5 u=if 0<=R.port then tl R.htx++[58]++dec R.port.toNat else tl R.htx by rw[<-hr.eq];rfl)
 obtain⟨-,-,-,-,c4,c5,-⟩:=h.cells;clear h hr
 by_cases h0:0<=R.port
 .have HE:=A (HD.o.trans (ifP h0))
  clear HD;have hdl:=ZdD R.port.toNat
  go_enter func115,ntmps115
  go_wp2_with fail
  refine(ZdE 65535 R.port _ h0 hp (by decide)).mono ?_
  rintro e w1 ⟨r,rfl,hrr,hn⟩;have HR:=A hrr
  have hrs:r.size<=65536:=by rw[<-Za,hrr];omega
  have HN:=A hn;clear hrr hn c4 c5;go_wp2;go_ret
  refine⟨_,rfl,?_,?_,HN.o⟩
  .rw[HE.o,Zd,Zd,HR.o];rfl
  .rw[Zk,Zk];show R.htx.size+1+r.size<=400000;omega
 .have HE:=A (HD.o.trans (ifN h0))
  clear HD
  go_enter func115,ntmps115
  go_wp2;go_ret
  exact⟨_,rfl,HE.o.symm,by omega,Nx.rfl⟩
theorem ZBj(rb:Nat)(R:RR)(u:RU)(bs:LA)(w:World)(h:RB w rb R)(hr:RIs w R u bs)(hl:R.bl.size<=300000):Calls prog 116 #[.pointer (some ⟨rb,0,none⟩)] w fun e w'=>∃t:BA,e=Y (J t)/\tl t=ZA1 u/\t.size<=200000000000/\Nx w w':=by
 have HD:=A (show ZA1 u=tl R.bl++Zc9 (bs.map tl)by rw[<-hr.eq];rfl)
 have hls:=hr.lsegs;have HLS:=A hr.lseg;have hsg:=hr.seg';obtain⟨-,-,-,-,-,-,c6,-,c8,-⟩:=h.cells;clear h hr;rcases hsg with⟨h1,h2,h3,rfl⟩|⟨b,off,h1,h2,h3,h4,hrow⟩
 .rw[h1,h2,h3]at c6
  go_enter func116,ntmps116
  go_wp2
  go_loop [3,4] (fun t i=>t=J R.bl/\i=I X 0) (fun _ _=>0)
  case atStart=>exact⟨rfl,rfl⟩
  case round=>
   obtain⟨rfl,rfl⟩:=hrel;go_wp2;go_ret
   exact⟨_,rfl,by rw[HD.o];simp[Zc9],by omega,Nx.rfl⟩
 .rw[h1,h2]at c6
  unfold maxLen at h4
  go_enter func116,ntmps116
  go_wp2
  go_loop [3,4] (fun t i=>∃(k:Nat) (txt:BA),k<=bs.length/\t=J txt/\i=I X k/\tl txt=tl R.bl++Zc9 ((bs.take k).map tl)/\txt.size<=300000+1000001*k) (fun _ i=>bs.length-(intOf i).toNat)
  case atStart=>exact⟨0,R.bl,Xk _,rfl,rfl,by simp[Zc9],by omega⟩
  case round=>
   obtain⟨k,txt,hk,rfl,rfl,hE,hsz⟩:=hrel;have HT:=A hE;clear hE
   by_cases hlt:k<bs.length
   .have hck:=hrow.cell hlt
    have hbz:=HLS.o _ (List.getElem_mem hlt)
    have HS:=A (show(bs.take (k+1)).map tl=(bs.take k).map tl++[tl bs[k]]by rw[Xh hlt,Xm];rfl)
    generalize bs[k]=p at *;go_wp2
    go_round
    exact⟨k+1,txt++(⟨#[47]⟩:BA)++p,by omega,rfl,by go_num,by rw[HS.o,joinSl_snoc,Zd,Zd,HT.o];simp[tl],by rw[Zk,Zk];show txt.size+1+p.size<=_;omega⟩
    simp[intOf];omega
   .have HF:=A (show tl txt=ZA1 u by rw[HT.o,HD.o,Xi (by omega)])
    have hz2:txt.size<=200000000000:=by
     have:1000001*k<=1000001*100000:=Nat.mul_le_mul_left _ (by omega)
     omega
    go_wp2;go_ret;exact⟨txt,rfl,HF.o,hz2,Nx.rfl⟩
end Go.Proofs.YtchkhibgbnhjpabGreatDoor
