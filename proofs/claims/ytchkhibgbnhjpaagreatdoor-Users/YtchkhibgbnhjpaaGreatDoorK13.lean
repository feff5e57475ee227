import Derived.Test.YtchkhibgbnhjpaaGreatDoorK12
import Derived.Deep.RegionWith
namespace Go.Proofs.YtchkhibgbnhjpaaGreatDoor
open Go.RowKit
def Zdj (f:Bool) (ps:List (List UInt8)) (seg:List UInt8) (last:Bool):List (List UInt8):=
 if countDots seg=0 then joinL f ps seg else
 if last then (if countDots seg=2 then Zaz f ps else ps)++[[]] else (if countDots seg=2 then Zaz f ps else ps)
theorem Zb8 {f:Bool} {bs bs':List ByteArray} (h:bs'.map tl=Zaz f (bs.map tl)):bs'.length≤bs.length:=by
 have h1:=congrArg List.length h
 have h2:=Zot f (bs.map tl)
 rw [List.length_map] at h1 h2
 omega
set_option maxHeartbeats 4000000 in
theorem Zsu (pb base:Nat) (f s:Bool) (v:Value) (bs:List ByteArray) (q:ByteArray) (last:Bool) (w:World) (hp:PthAt w pb f s v) (ho:Zc2 w base v bs) (hb:base≤pb) (hbw:base≤w.heap.size) (hl:bs.length≤1000000) (hq:q.size≤1000000):
  Calls Tryz.prog 225 #[.pointer (some ⟨pb,0,none⟩),.string q,.bool last] w fun e w'=>∃ x v' bs',e=.returned x∧PthAt w' pb f s v'∧Zc2 w' base v' bs'∧bs'.map tl=Zdj f (bs.map tl) (tl q) last∧bs'.length≤bs.length + 1∧Below base w w':=by
 have HP:=Za hp
 have HO:=Za ho
 have HB:=Za hb
 clear hp ho hb
 have HT:=Za (show Zdj f (bs.map tl) (tl q) last=if countDots (tl q)=0 then joinL f (bs.map tl) (tl q) else
  if last then (if countDots (tl q)=2 then Zaz f (bs.map tl) else bs.map tl)++[[]] else (if countDots (tl q)=2 then Zaz f (bs.map tl) else bs.map tl) from rfl)
 have hd2:=Zul 3 0 (tl q) rfl
 change countDots (tl q)≤2 at hd2
 generalize hd:countDots (tl q)=d at *
 have HD:=Za hd
 clear hd
 have key:∀ (w1 w2:World) (v1 v':Value) (cs:List ByteArray),Below base w w1→PthAt w1 pb f s v1→Zc2 w2 base v' (cs++[(⟨#[]⟩:ByteArray)])→Below base w1 w2→Kp 9 w1 w2→PthAt w2 pb f s v1∧(∀ u,PthAt (w2.setCell ⟨pb,2,none⟩ u) pb f s u)∧(∀ u,Zc2 (w2.setCell ⟨pb,2,none⟩ u) base v' (cs++[(⟨#[]⟩:ByteArray)]))∧(∀ u,Below base w (w2.setCell ⟨pb,2,none⟩ u)):=by
  intro w1 w2 v1 v' cs h0 hp1 h1 h2 h3
  have h4:=hp1.kp h3
  exact ⟨h4,fun u=>h4.set u,fun u=>h4.own h1 u,fun u=>(h0.trans h2).setCell HB.out u⟩
 have KEY:=Za key
 clear key
 rcases (show d=0∨d=1∨d=2 by omega) with rfl | rfl | rfl
 ·have HE:=Za (HT.out.trans (if_pos rfl))
  clear HT hd2
  go_enter Tryz.func225,Tryz.ntmps225
  go_wp2_with (first | (go_at_call 237;refine (ZbO _ _ hq).mono ?_;rintro e w' ⟨rfl,rfl⟩;rw [HD.out]) | (go_at_call 238;refine (Zsq pb base f s v bs q _ HP.out HO.out HB.out hbw hl hq).mono ?_;rintro e w1 ⟨x,v1,bs1,rfl,h1,h2,h3,h4,h5⟩;have H1:=Za h1;have H2:=Za h2;have H3:=Za h3;have H4:=Za h4;have H5:=Za h5;clear h1 h2 h3 h4 h5))
  exact bodyPost_end (results_none rfl _ _ _) rfl ⟨_,_,_,rfl,H1.out,H2.out,H3.out.trans HE.out.symm,H4.out,H5.out⟩
 ·have HE:=Za (show Zdj f (bs.map tl) (tl q) last=if last then bs.map tl++[[]] else bs.map tl from by rw [HT.out,if_neg (show ¬ (1:Nat)=0 by decide),if_neg (show ¬ (1:Nat)=2 by decide)])
  clear HT hd2
  cases last
  ·have HE2:=Za (HE.out.trans (if_neg (by decide)))
   clear HE
   go_enter Tryz.func225,Tryz.ntmps225
   go_wp2_with (go_at_call 237;refine (ZbO _ _ hq).mono ?_;rintro e w' ⟨rfl,rfl⟩;rw [HD.out])
   exact bodyPost_end (results_none rfl _ _ _) rfl ⟨_,_,_,rfl,HP.out,HO.out,HE2.out.symm,by omega,Below.refl _ _⟩
  ·have HE2:=Za (HE.out.trans (if_pos rfl))
   clear HE
   obtain ⟨hc0,hc1,hc2,hf2⟩:=HP.out.facts
   have hbl:bs.length < 1099511627776:=by omega
   go_enter Tryz.func225,Tryz.ntmps225
   go_wp2_with (first | (go_at_call 237;refine (ZbO _ _ hq).mono ?_;rintro e w' ⟨rfl,rfl⟩;rw [HD.out]) | (at_builtin;go_must (refine Zcd w (⟨#[]⟩:ByteArray) rfl _ _ rfl base v bs rfl HO.out rfl hbl hbw ?_;intro v' w2 ho2 hb2 hk2;obtain ⟨g2,n2,c2,rfl⟩:=ZcG ho2 (by simp);obtain ⟨hp4,hps,hos,hbs⟩:=KEY.out w w2 v _ bs (Below.refl _ _) HP.out ho2 hb2 hk2;obtain ⟨-,-,hd2,hg2⟩:=hp4.facts;have HPS:=Za hps;have HOS:=Za hos;have HBS:=Za hbs;clear ho2 hb2 hk2 hp4 hps hos hbs)))
   exact bodyPost_end (results_none rfl _ _ _) rfl ⟨_,_,_,rfl,HPS.out _,HOS.out _,by rw [HE2.out,List.map_append];rfl,by simp,HBS.out _⟩
 ·have HE:=Za (show Zdj f (bs.map tl) (tl q) last=if last then Zaz f (bs.map tl)++[[]] else Zaz f (bs.map tl) from by rw [HT.out,if_neg (show ¬ (2:Nat)=0 by decide),if_pos (show (2:Nat)=2 from rfl)])
  clear HT hd2
  cases last
  ·have HE2:=Za (HE.out.trans (if_neg (by decide)))
   clear HE
   go_enter Tryz.func225,Tryz.ntmps225
   go_wp2_with (first | (go_at_call 237;refine (ZbO _ _ hq).mono ?_;rintro e w' ⟨rfl,rfl⟩;rw [HD.out]) | (go_at_call 226;refine (Zfg pb base f s v bs _ HP.out HO.out HB.out hl).mono ?_;rintro e w1 ⟨x,v1,bs1,rfl,h1,h2,h3,h5⟩;have H1:=Za h1;have H2:=Za h2;have H3:=Za h3;have H5:=Za h5;clear h1 h2 h3 h5))
   exact bodyPost_end (results_none rfl _ _ _) rfl ⟨_,_,_,rfl,H1.out,H2.out,H3.out.trans HE2.out.symm,by have:=Zb8 H3.out;omega,H5.out⟩
  ·have HE2:=Za (HE.out.trans (if_pos rfl))
   clear HE
   go_enter Tryz.func225,Tryz.ntmps225
   go_wp2_with (first | (go_at_call 237;refine (ZbO _ _ hq).mono ?_;rintro e w' ⟨rfl,rfl⟩;rw [HD.out]) | fail)
   refine (Zfg pb base f s v bs _ HP.out HO.out HB.out hl).mono ?_
   rintro e w1 ⟨x,v1,bs1,rfl,h1,h2,h3,h5⟩
   have H1:=Za h1
   have H2:=Za h2
   have H3:=Za h3
   have H5:=Za h5
   have hbl:bs1.length < 1099511627776:=by have:=Zb8 h3;omega
   have hbl2:=Zb8 h3
   have hz:base≤w1.heap.size:=Nat.le_trans hbw h5.size
   clear h1 h2 h3 h5
   obtain ⟨hc0,hc1,hc2,hf2⟩:=H1.out.facts
   go_wp2_with (at_builtin;go_must (refine Zcd w1 (⟨#[]⟩:ByteArray) rfl _ _ rfl base v1 bs1 rfl H2.out rfl hbl hz ?_;intro v' w2 ho2 hb2 hk2;obtain ⟨g2,n2,c2,rfl⟩:=ZcG ho2 (by simp);obtain ⟨hp4,hps,hos,hbs⟩:=KEY.out w1 w2 v1 _ bs1 H5.out H1.out ho2 hb2 hk2;obtain ⟨-,-,hd2,hg2⟩:=hp4.facts;have HPS:=Za hps;have HOS:=Za hos;have HBS:=Za hbs;clear ho2 hb2 hk2 hp4 hps hos hbs))
   exact bodyPost_end (results_none rfl _ _ _) rfl ⟨_,_,_,rfl,HPS.out _,HOS.out _,by rw [HE2.out,List.map_append,H3.out];rfl,by rw [List.length_append];simp;omega,HBS.out _⟩
def ZbC (p:UInt8→Bool) (l:List UInt8):List (List UInt8):=
 match l with
 | []=>[[]]
 | c :: r=>if p c then [] :: ZbC p r else
  match ZbC p r with
  | []=>[[c]]
  | x :: q=>(c :: x) :: q
theorem Zf8 (p:UInt8→Bool) (l:List UInt8):ZbC p l=if (bcut p l).2.2 then (bcut p l).1 :: ZbC p (bcut p l).2.1 else [(bcut p l).1]:=by
 induction l with
 | nil=>simp [ZbC,bcut]
 | cons c r ih=>
  cases h:p c
  ·have hc:bcut p (c :: r)=(c :: (bcut p r).1,(bcut p r).2):=by simp [bcut,h]
   rw [ZbC,if_neg (by simp [h]),hc,ih]
   cases h2:(bcut p r).2.2 <;> simp
  ·have hc:bcut p (c :: r)=([],r,true):=by simp [bcut,h]
   rw [ZbC,if_pos h,hc]
   simp
theorem Zef (p:UInt8→Bool) (l:List UInt8):∃ x q,ZbC p l=x :: q:=by
 rw [Zf8]
 split
 ·exact ⟨_,_,rfl⟩
 ·exact ⟨_,_,rfl⟩
def ZbX (f:Bool):List (List UInt8)→List (List UInt8)→List (List UInt8)
 | ps,[]=>ps
 | ps,[x]=>Zdj f ps x true
 | ps,x :: y :: r=>ZbX f (Zdj f ps x false) (y :: r)
def ZaP (f sp:Bool) (ps:List (List UInt8)) (text:List UInt8):List (List UInt8):=ZbX f ps (ZbC (slB sp) text)
theorem Zks (f sp:Bool) (ps:List (List UInt8)) (text:List UInt8):ZaP f sp ps text=if (bcut (slB sp) text).2.2 then ZaP f sp (Zdj f ps (bcut (slB sp) text).1 false) (bcut (slB sp) text).2.1 else Zdj f ps (bcut (slB sp) text).1 true:=by
 unfold ZaP
 rw [Zf8]
 cases h:(bcut (slB sp) text).2.2
 ·rfl
 ·simp only [if_true]
  obtain ⟨x,q,hx⟩:=Zef (slB sp) (bcut (slB sp) text).2.1
  rw [hx]
  rfl
set_option maxHeartbeats 4000000 in
theorem Zfh (pb base:Nat) (f s:Bool) (v:Value) (bs:List ByteArray) (t:ByteArray) (w:World) (hp:PthAt w pb f s v) (ho:Zc2 w base v bs) (hb:base≤pb) (hbw:base≤w.heap.size) (hl:bs.length≤100000) (ht:t.size≤100000):
  Calls Tryz.prog 190 #[.pointer (some ⟨pb,0,none⟩),.string t] w fun e w'=>∃ x v' bs',e=.returned x∧PthAt w' pb f s v'∧Zc2 w' base v' bs'∧bs'.map tl=ZaP f s (bs.map tl) (tl t)∧bs'.length≤bs.length + t.size + 1∧Below base w w':=by
 have HP:=Za hp
 have HO:=Za ho
 have HB:=Za hb
 clear hp ho hb
 go_enter Tryz.func190,Tryz.ntmps190
 go_wp2
 go_loopw [4,5] (fun x m wr=>∃ (q:ByteArray) (more:Bool) (v1:Value) (cs:List ByteArray),x=.string q∧m=.bool more∧PthAt wr pb f s v1∧Zc2 wr base v1 cs∧cs.length + q.size≤bs.length + t.size + 1∧(more=true→cs.length + q.size≤bs.length + t.size)∧ZaP f s (bs.map tl) (tl t)=(if more then ZaP f s (cs.map tl) (tl q) else cs.map tl)∧Below base w wr)
  (fun x m _=>if ZmS m then ZmR x + 1 else 0)
 case atStart=>exact ⟨t,true,v,bs,rfl,rfl,HP.out,HO.out,by omega,fun _=>Nat.le_refl _,rfl,Below.refl _ _⟩
 case round=>
  obtain ⟨q,more,v1,cs,rfl,rfl,hp1,ho1,hl1,hm,hE,hbel⟩:=hrel
  cases more
  ·simp only [Bool.false_eq_true,if_false] at hE
   have HE:=Za hE
   have HP1:=Za hp1
   have HO1:=Za ho1
   have HBL:=Za hbel
   clear hE hp1 ho1 hbel hm
   go_wp2
   exact bodyPost_end (results_none rfl _ _ _) rfl ⟨_,_,_,rfl,HP1.out,HO1.out,HE.out.symm,by omega,HBL.out⟩
  ·have hl2:=hm rfl
   simp only [if_true] at hE
   rw [Zks f s (cs.map tl) (tl q)] at hE
   have HE:=Za hE
   have HP1:=Za hp1
   have HO1:=Za ho1
   have HBL:=Za hbel
   have HL:=Za (Zar (slB s) (tl q))
   obtain ⟨hc0,hc1,hc2,hf2⟩:=hp1.facts
   clear hE hp1 ho1 hbel hm HP HO
   go_wp2_with fail
   refine (Zc5 q s _ (Zd (by omega))).mono ?_
   rintro e w1 ⟨⟨a,b,rfl,ha,hb⟩,hn1⟩
   have hla:a.size=(bcut (slB s) (tl q)).1.length:=by rw [← ha,tl_length]
   have hlb:b.size=(bcut (slB s) (tl q)).2.1.length:=by rw [← hb,tl_length]
   have HA:=Za ha
   have HBB:=Za hb
   have HLA:=Za hla
   have HLB:=Za hlb
   have hqa:a.size≤1000000:=by have h:=HL.out.1;rw [tl_length] at h;omega
   have hz1:base≤wr.heap.size:=Nat.le_trans hbw HBL.out.size
   have hz:base≤w1.heap.size:=Nat.le_trans hz1 hn1.size
   have HP2:=Za (HP1.out.on hn1)
   have HO2:=Za (Zbq HO1.out hn1)
   have HBL2:=Za (show Below base w w1 from HBL.out.trans (hn1.mono hz1))
   clear ha hb hla hlb hn1 HP1 HO1 HBL
   generalize bcut (slB s) (tl q)=c at *
   obtain ⟨c1,c2,found⟩:=c
   simp only at *
   go_wp2_with fail
   refine (Zsu pb base f s v1 cs a (!found) w1 HP2.out HO2.out HB.out hz (by omega) hqa).mono ?_
   rintro e w2 ⟨x,v2,cs2,rfl,h1,h2,h3,h4,h5⟩
   have H1:=Za h1
   have H2:=Za h2
   have H3:=Za h3
   have H4:=Za h4
   have H5:=Za (HBL2.out.trans h5)
   clear h1 h2 h3 h4 h5
   go_wp2
   go_roundw
   case rel=>
    refine ⟨b,found,v2,cs2,rfl,rfl,H1.out,H2.out,?_,?_,?_,H5.out⟩
    ·have h:=HL.out.1;have h1:=HLA.out;have h2:=HLB.out;have h3:=H4.out;rw [tl_length] at h;omega
    ·intro hf;have h:=HL.out.2 hf;have h2:=HLB.out;have h3:=H4.out;rw [tl_length] at h;omega
    ·rw [HE.out,H3.out,HA.out,HBB.out]
     cases found <;> rfl
   case measure=>
    have h:=HL.out
    have h2:=HLB.out
    rw [tl_length] at h
    simp only [ZmS,ZmR]
    cases found
    ·simp
    ·have:=h.2 rfl
     simp only [if_true];omega
theorem ZlX (w:World) (f s:Bool) (v:Value):PthAt (w.alloc (Obj.cells #[.bool f,.bool s,v] 168)) w.heap.size f s v:=heap_alloc_new w _
theorem ZQ {w:World} {base:Nat} {v:Value} {bs:List ByteArray} (h:Zc2 w base v bs):∃ ao n cap,v=.slice ao n cap:=by
 obtain ⟨h1,⟨h2,h3⟩ | ⟨g',cap',cur,h2,h4⟩⟩:=h
 ·exact ⟨_,_,_,h2⟩
 ·exact ⟨_,_,_,h2⟩
def ZbG (t sch:List UInt8):List (List UInt8):=ZaP (sch == Zs) (Zc sch) [] t
set_option maxHeartbeats 2000000 in
theorem ZaM (t sch:ByteArray) (w:World) (ht:t.size≤100000):
  Calls Tryz.prog 155 #[.string t,.string sch] w fun e w'=>∃ v bs,e=.returned v∧Zc2 w' w.heap.size v bs∧bs.map tl=ZbG (tl t) (tl sch)∧bs.length≤t.size + 1∧Nx w w':=by
 go_enter Tryz.func155,Tryz.ntmps155
 go_wp2_with fail
 refine (ZhB _ [] sch w (SlAt.nil w) (by simp)).mono ?_
 rintro e w1 ⟨v1,rfl,ho,hn⟩
 obtain ⟨ao,n,cap,rfl⟩:=ZQ ho
 have hz:=hn.size
 have HP:=Za (ZlX w1 (tl sch == Zs) (Zc (tl sch)) (.slice ao n cap))
 have HO:=Za (show Zc2 (w1.alloc (Obj.cells #[.bool (tl sch == Zs),.bool (Zc (tl sch)),.slice ao n cap] 168)) w.heap.size (.slice ao n cap) [] from World.ownsRow.alloc ho _)
 have HN:=Za (show Nx w (w1.alloc (Obj.cells #[.bool (tl sch == Zs),.bool (Zc (tl sch)),.slice ao n cap] 168)) from hn.alloc _)
 clear ho hn
 go_wp2_with fail
 refine (Zfh w1.heap.size w.heap.size _ _ _ [] t _ HP.out HO.out hz (by simp;omega) (by simp) ht).mono ?_
 rintro e w2 ⟨x,v2,bs,rfl,h1,h2,h3,h4,h5⟩
 obtain ⟨ao2,n2,cap2,rfl⟩:=ZQ h2
 obtain ⟨-,-,hc2,-⟩:=h1.facts
 have H2:=Za h2
 have H3:=Za h3
 have H4:=Za h4
 have H5:=Za (show Nx w w2 from HN.out.trans h5)
 clear h1 h2 h3 h4 h5 HP HO HN
 go_wp2
 go_ret
 exact ⟨_,_,rfl,H2.out,H3.out,by have:=H4.out;simpa using this,H5.out⟩
def Zct (base:List (List UInt8)) (t sch:List UInt8):List (List UInt8):=ZaP (sch == Zs) (Zc sch) (Zaz (sch == Zs) base) t
set_option maxHeartbeats 2000000 in
theorem ZlY (v:Value) (cs:List ByteArray) (t sch:ByteArray) (w:World) (hv:Zcb w v cs) (hl:cs.length≤100000) (ht:t.size≤100000):
  Calls Tryz.prog 194 #[v,.string t,.string sch] w fun e w'=>∃ v bs,e=.returned v∧Zc2 w' w.heap.size v bs∧bs.map tl=Zct (cs.map tl) (tl t) (tl sch)∧bs.length≤cs.length + t.size + 1∧Nx w w':=by
 go_enter Tryz.func194,Tryz.ntmps194
 go_wp2_with fail
 refine (ZhB _ cs sch w hv (by omega)).mono ?_
 rintro e w1 ⟨v1,rfl,ho,hn⟩
 obtain ⟨ao,n,cap,rfl⟩:=ZQ ho
 have hz:=hn.size
 have HP:=Za (ZlX w1 (tl sch == Zs) (Zc (tl sch)) (.slice ao n cap))
 have HO:=Za (show Zc2 (w1.alloc (Obj.cells #[.bool (tl sch == Zs),.bool (Zc (tl sch)),.slice ao n cap] 168)) w.heap.size (.slice ao n cap) cs from World.ownsRow.alloc ho _)
 have HN:=Za (show Nx w (w1.alloc (Obj.cells #[.bool (tl sch == Zs),.bool (Zc (tl sch)),.slice ao n cap] 168)) from hn.alloc _)
 clear ho hn hv
 go_wp2_with fail
 refine (Zfg w1.heap.size w.heap.size _ _ _ cs _ HP.out HO.out hz (by omega)).mono ?_
 rintro e w3 ⟨x,v3,bs3,rfl,h1,h2,h3,h5⟩
 have hl3:=Zb8 h3
 have hz3:w.heap.size≤w3.heap.size:=Nat.le_trans (by simp;omega) h5.size
 have H1:=Za h1
 have H2:=Za h2
 have H3:=Za h3
 have H5:=Za (show Nx w w3 from HN.out.trans h5)
 clear h1 h2 h3 h5 HP HO HN
 go_wp2_with fail
 refine (Zfh w1.heap.size w.heap.size _ _ _ bs3 t _ H1.out H2.out hz hz3 (by omega) ht).mono ?_
 rintro e w2 ⟨x,v2,bs,rfl,h1,h2,h3,h4,h5⟩
 obtain ⟨ao2,n2,cap2,rfl⟩:=ZQ h2
 obtain ⟨-,-,hc2,-⟩:=h1.facts
 have G2:=Za h2
 have G3:=Za h3
 have G4:=Za h4
 have G5:=Za (show Nx w w2 from H5.out.trans h5)
 clear h1 h2 h3 h4 h5
 go_wp2
 go_ret
 exact ⟨_,_,rfl,G2.out,by rw [G3.out,H3.out];rfl,by have:=G4.out;omega,G5.out⟩
def ZaB (base:List (List UInt8)) (t:List UInt8):List (List UInt8):=
 if base=[]∨Zam (base.getD 0 [])=false∨Zae t=true then ZbG t Zs else ZaP true true (base.take 1) t
theorem file_special:Zc Zs=true:=by decide
theorem ZdR {base:List (List UInt8)} {t:List UInt8} (h:base=[]∨Zam (base.getD 0 [])=false∨Zae t=true):ZaB base t=ZbG t Zs:=if_pos h
theorem ZlZ {base:List (List UInt8)} {t:List UInt8} (h1:base≠[]) (h2:Zam (base.getD 0 [])=true) (h3:Zae t=false):ZaB base t=ZaP true true (base.take 1) t:=
 if_neg (by rintro (h | h | h);exact h1 h;rw [h2] at h;cases h;rw [h3] at h;cases h)
set_option maxHeartbeats 4000000 in
theorem Zl0 (v:Value) (cs:List ByteArray) (t:ByteArray) (w:World) (hv:Zcb w v cs) (ht:t.size≤100000):
  Calls Tryz.prog 186 #[v,.string t] w fun e w'=>∃ v bs,e=.returned v∧Zc2 w' w.heap.size v bs∧bs.map tl=ZaB (cs.map tl) (tl t)∧bs.length≤t.size + 2∧Nx w w':=by
 have HV:=Za hv
 obtain ⟨ao,cap,rfl,hlc,hcap,hnone,hsome⟩:=hv
 have HCAP:=Za hcap
 unfold maxLen at hcap
 have HRD:Hid (tl (⟨#[102,105,108,101]⟩:ByteArray)=Zs):=Za rfl
 rcases Nat.eq_zero_or_pos cs.length with h0 | hpos
 ·have e0:cs=[]:=List.eq_nil_of_length_eq_zero h0
  subst e0
  have HE:=Za (ZdR (base:=([]:List ByteArray).map tl) (t:=tl t) (Or.inl rfl))
  clear h0 hnone hsome
  go_enter Tryz.func186,Tryz.ntmps186
  go_wp2_with fail
  refine (ZaM t _ w ht).mono ?_
  rintro e w1 ⟨v1,bs,rfl,h1,h2,h3,h4⟩
  have H1:=Za h1
  have H2:=Za h2
  have H3:=Za h3
  have H4:=Za h4
  clear h1 h2 h3 h4
  go_wp2
  go_ret
  exact ⟨_,_,rfl,H1.out,by rw [HE.out,H2.out];rfl,by have:=H3.out;omega,H4.out⟩
 ·obtain ⟨a,ha⟩:=ZN (k:=0) hpos hnone
  subst ha
  obtain ⟨b,off,rfl,hr⟩:=hsome a rfl
  have hck:=hr.cell (i:=0) hpos
  rw [Nat.add_zero] at hck
  have HM:=Za (Zjq cs hpos)
  have HNE:=Za (show cs.map tl≠[] from fun h=>by have:=congrArg List.length h;rw [List.length_map] at this;simp at this;subst this;simp at hpos)
  have hn0:((cs.length:Int) == 0)=false:=beq_eq_false_iff_ne.2 (by omega)
  have HS1:=Za (Zde hr hlc HCAP.out 1 hpos)
  clear hnone hsome hr
  cases hw:Zam (tl cs[0])
  ·have HW:=Za hw
   have HE:=Za (ZdR (base:=cs.map tl) (t:=tl t) (Or.inr (Or.inl (by rw [HM.out];exact hw))))
   clear hw
   go_enter Tryz.func186,Tryz.ntmps186
   go_wp2_with (first | (go_at_call 224;refine (Zcg _ _).mono ?_;rintro e w' ⟨rfl,rfl⟩;rw [HW.out]) | fail)
   refine (ZaM t _ w ht).mono ?_
   rintro e w1 ⟨v1,bs,rfl,h1,h2,h3,h4⟩
   have H1:=Za h1
   have H2:=Za h2
   have H3:=Za h3
   have H4:=Za h4
   clear h1 h2 h3 h4
   go_wp2
   go_ret
   exact ⟨_,_,rfl,H1.out,by rw [HE.out,H2.out];rfl,by have:=H3.out;omega,H4.out⟩
  ·have HW:=Za hw
   clear hw
   cases hd:Zae (tl t)
   ·have HD:=Za hd
    have HE:=Za (ZlZ (base:=cs.map tl) (t:=tl t) HNE.out (by rw [HM.out];exact HW.out) hd)
    clear hd
    go_enter Tryz.func186,Tryz.ntmps186
    go_wp2_with (first | (go_at_call 224;refine (Zcg _ _).mono ?_;rintro e w' ⟨rfl,rfl⟩;rw [HW.out]) | fail)
    refine (Zdi t _ (Zd (by omega))).mono ?_
    rintro e w0 ⟨rfl,hn0⟩
    rw [HD.out]
    have HN0:=Za hn0
    have HS2:=Za (HS1.out.on hn0)
    clear hn0
    go_wp2_with fail
    refine (ZhB _ (cs.take 1) _ w0 HS2.out (by rw [List.length_take];omega)).mono ?_
    rintro e w1 ⟨v1,rfl,ho,hn⟩
    rw [HRD.out,file_special,show (Zs == Zs)=true from rfl]
    obtain ⟨ao,n,cap,rfl⟩:=ZQ ho
    have hz0:=HN0.out.size
    have hz:=hn.size
    have HP:=Za (ZlX w1 true true (.slice ao n cap))
    have HO:=Za (show Zc2 (w1.alloc (Obj.cells #[.bool true,.bool true,.slice ao n cap] 168)) w.heap.size (.slice ao n cap) (cs.take 1) from World.ownsRow.alloc (Zjs ho hz0) _)
    have HN:=Za (show Nx w (w1.alloc (Obj.cells #[.bool true,.bool true,.slice ao n cap] 168)) from (HN0.out.then hn).alloc _)
    clear ho hn
    go_wp2_with fail
    refine (Zfh w1.heap.size w.heap.size _ _ _ (cs.take 1) t _ HP.out HO.out (by omega) (by simp;omega) (by rw [List.length_take];omega) ht).mono ?_
    rintro e w2 ⟨x,v2,bs,rfl,h1,h2,h3,h4,h5⟩
    obtain ⟨ao2,n2,cap2,rfl⟩:=ZQ h2
    obtain ⟨-,-,hc2,-⟩:=h1.facts
    have G2:=Za h2
    have G3:=Za h3
    have G4:=Za h4
    have G5:=Za (show Nx w w2 from HN.out.trans h5)
    clear h1 h2 h3 h4 h5 HP HO HN
    go_wp2
    go_ret
    exact ⟨_,_,rfl,G2.out,by rw [G3.out,HE.out,List.map_take],by have:=G4.out;rw [List.length_take] at this;omega,G5.out⟩
   ·have HD:=Za hd
    have HE:=Za (ZdR (base:=cs.map tl) (t:=tl t) (Or.inr (Or.inr hd)))
    clear hd
    go_enter Tryz.func186,Tryz.ntmps186
    go_wp2_with (first | (go_at_call 224;refine (Zcg _ _).mono ?_;rintro e w' ⟨rfl,rfl⟩;rw [HW.out]) | fail)
    refine (Zdi t _ (Zd (by omega))).mono ?_
    rintro e w0 ⟨rfl,hn0⟩
    rw [HD.out]
    have HN0:=Za hn0
    clear hn0
    go_wp2_with fail
    refine (ZaM t _ w0 ht).mono ?_
    rintro e w1 ⟨v1,bs,rfl,h1,h2,h3,h4⟩
    have H1:=Za (Zjs h1 HN0.out.size)
    have H2:=Za h2
    have H3:=Za h3
    have H4:=Za (HN0.out.then h4)
    clear h1 h2 h3 h4
    go_wp2
    go_ret
    exact ⟨_,_,rfl,H1.out,by rw [HE.out,H2.out];rfl,by have:=H3.out;omega,H4.out⟩
structure Rc where
 sch:ByteArray
 nam:ByteArray
 pw:ByteArray
 hh:Bool
 host:ByteArray
 hp:Bool
 port:Nat
 op:Bool
 opath:ByteArray
 so:Option Addr
 sn:Nat
 sc:Nat
 hq:Bool
 q:ByteArray
 hf:Bool
 fr:ByteArray
structure U where
 sch:List UInt8
 nam:List UInt8
 pw:List UInt8
 hh:Bool
 host:List UInt8
 hp:Bool
 port:Nat
 op:Bool
 opath:List UInt8
 segs:List (List UInt8)
 hq:Bool
 q:List UInt8
 hf:Bool
 fr:List UInt8
 deriving DecidableEq
def Rc.u (r:Rc) (bs:List ByteArray):U:=⟨tl r.sch,tl r.nam,tl r.pw,r.hh,tl r.host,r.hp,r.port,r.op,tl r.opath,bs.map tl,r.hq,tl r.q,r.hf,tl r.fr⟩
structure RcIs (w:World) (r:Rc) (u:U) (bs:List ByteArray):Prop where
 eq:r.u bs=u
 seg:Zcb w (.slice r.so r.sn r.sc) bs
 lsch:r.sch.size≤300000
 lnam:r.nam.size≤300000
 lpw:r.pw.size≤300000
 lhost:r.host.size≤300000
 lport:r.port≤65535
 lopath:r.opath.size≤300000
 lsegs:bs.length≤300000
 lseg:∀ b∈bs,b.size≤300000
 lq:r.q.size≤300000
 lfr:r.fr.size≤300000
theorem RcIs.on {w w':World} {r:Rc} {u:U} {bs:List ByteArray} (h:RcIs w r u bs) (hb:Nx w w'):RcIs w' r u bs:={ h with seg:=h.seg.on hb }
def RecB (w:World) (b:Nat) (r:Rc):Prop:=w.heap[b]?=some (Obj.cells #[.string r.sch,.string r.nam,.string r.pw,.bool r.hh,.string r.host,.bool r.hp,.int .i64 (r.port:Int),.bool r.op,.string r.opath,.slice r.so r.sn r.sc,.bool r.hq,.string r.q,.bool r.hf,.string r.fr] 54 (0,0))
theorem RecB.on {w w':World} {b:Nat} {r:Rc} (h:RecB w b r) (hb:Nx w w'):RecB w' b r:=(hb.block b (Array.getElem?_eq_some_iff.1 h).1).trans h
theorem Za0 (w:World) (r:Rc):RecB (w.alloc (Obj.cells #[.string r.sch,.string r.nam,.string r.pw,.bool r.hh,.string r.host,.bool r.hp,.int .i64 (r.port:Int),.bool r.op,.string r.opath,.slice r.so r.sn r.sc,.bool r.hq,.string r.q,.bool r.hf,.string r.fr] 54)) w.heap.size r:=heap_alloc_new w _
theorem RecB.cells {w:World} {b:Nat} {r:Rc} (h:RecB w b r):w.cell? ⟨b,0,none⟩=some (.string r.sch)∧w.cell? ⟨b,1,none⟩=some (.string r.nam)∧w.cell? ⟨b,2,none⟩=some (.string r.pw)∧w.cell? ⟨b,3,none⟩=some (.bool r.hh)∧w.cell? ⟨b,4,none⟩=some (.string r.host)∧w.cell? ⟨b,5,none⟩=some (.bool r.hp)∧w.cell? ⟨b,6,none⟩=some (.int .i64 (r.port:Int))∧w.cell? ⟨b,7,none⟩=some (.bool r.op)∧w.cell? ⟨b,8,none⟩=some (.string r.opath)∧w.cell? ⟨b,9,none⟩=some (.slice r.so r.sn r.sc)∧w.cell? ⟨b,10,none⟩=some (.bool r.hq)∧w.cell? ⟨b,11,none⟩=some (.string r.q)∧w.cell? ⟨b,12,none⟩=some (.bool r.hf)∧w.cell? ⟨b,13,none⟩=some (.string r.fr):=by
 unfold RecB at h
 refine ⟨?_,?_,?_,?_,?_,?_,?_,?_,?_,?_,?_,?_,?_,?_⟩ <;> simp [World.cell?,h]
theorem RecB.free {w:World} {b:Nat} {r:Rc} (h:RecB w b r) (i:Nat):w.frozen? ⟨b,i,none⟩=false:=by
 unfold RecB at h
 simp [World.frozen?,h]
def Zch (u:U):List UInt8:=u.sch++[58]
set_option maxHeartbeats 1000000 in
theorem ZgB (r:Rc) (u:U) (bs:List ByteArray) (w:World) (h:RcIs w r u bs):
  Calls Tryz.prog 40 #[.agg #[.string r.sch,.string r.nam,.string r.pw,.bool r.hh,.string r.host,.bool r.hp,.int .i64 (r.port:Int),.bool r.op,.string r.opath,.slice r.so r.sn r.sc,.bool r.hq,.string r.q,.bool r.hf,.string r.fr]] w fun e w'=>∃ t:ByteArray,e=.returned (.string t)∧tl t=Zch u∧Nx w w':=by
 have hs:=h.lsch
 have HE:=Za (show Zch u=tl r.sch++[58] by rw [← h.eq];rfl)
 clear h
 go_enter Tryz.func40,Tryz.ntmps40
 go_wp2
 go_ret
 exact ⟨r.sch++(⟨#[58]⟩:ByteArray),rfl,by rw [HE.out,Ze];rfl,Nx.rfl.alloc _⟩
def Zfi (m t:List UInt8):List UInt8:=if t=[] then [] else m++t
set_option maxHeartbeats 1000000 in
theorem ZiF (m t:ByteArray) (w:World) (hm:m.size≤1000000) (ht:t.size≤1000000):
  Calls Tryz.prog 60 #[.string m,.string t] w fun e w'=>∃ x:ByteArray,e=.returned (.string x)∧tl x=Zfi (tl m) (tl t)∧w=w':=by
 by_cases h0:t.size=0
 ·have HE:=Za (show Zfi (tl m) (tl t)=[] from if_pos (ZB h0))
  have h0':=Zo h0
  clear h0
  go_enter Tryz.func60,Tryz.ntmps60
  go_wp2
  go_ret
  exact ⟨⟨#[]⟩,rfl,HE.out.symm,rfl⟩
 ·have HE:=Za (show Zfi (tl m) (tl t)=tl m++tl t from if_neg (Zdf h0))
  have h0':=Zi h0
  clear h0
  go_enter Tryz.func60,Tryz.ntmps60
  go_wp2
  go_ret
  exact ⟨m++t,rfl,by rw [HE.out,Ze],rfl⟩
def Zjt (u:U):List UInt8:=Zfi [63] u.q
def Zsv (u:U):List UInt8:=Zfi [35] u.fr
set_option maxHeartbeats 1000000 in
theorem Zov (r:Rc) (u:U) (bs:List ByteArray) (w:World) (h:RcIs w r u bs):
  Calls Tryz.prog 44 #[.agg #[.string r.sch,.string r.nam,.string r.pw,.bool r.hh,.string r.host,.bool r.hp,.int .i64 (r.port:Int),.bool r.op,.string r.opath,.slice r.so r.sn r.sc,.bool r.hq,.string r.q,.bool r.hf,.string r.fr]] w fun e w'=>∃ t:ByteArray,e=.returned (.string t)∧tl t=Zjt u∧Nx w w':=by
 have hs:=h.lq
 have HE:=Za (show Zjt u=Zfi [63] (tl r.q) by rw [← h.eq];rfl)
 clear h
 go_enter Tryz.func44,Tryz.ntmps44
 go_wp2_with (go_at_call 60;refine (ZiF _ _ _ (by decide) (by omega)).mono ?_;rintro e w' ⟨x,rfl,hx,rfl⟩;have HX:=Za hx;clear hx)
 go_ret
 exact ⟨x,rfl,by rw [HE.out];exact HX.out,Nx.rfl.alloc _⟩
set_option maxHeartbeats 1000000 in
theorem Zsw (r:Rc) (u:U) (bs:List ByteArray) (w:World) (h:RcIs w r u bs):
  Calls Tryz.prog 45 #[.agg #[.string r.sch,.string r.nam,.string r.pw,.bool r.hh,.string r.host,.bool r.hp,.int .i64 (r.port:Int),.bool r.op,.string r.opath,.slice r.so r.sn r.sc,.bool r.hq,.string r.q,.bool r.hf,.string r.fr]] w fun e w'=>∃ t:ByteArray,e=.returned (.string t)∧tl t=Zsv u∧Nx w w':=by
 have hs:=h.lfr
 have HE:=Za (show Zsv u=Zfi [35] (tl r.fr) by rw [← h.eq];rfl)
 clear h
 go_enter Tryz.func45,Tryz.ntmps45
 go_wp2_with (go_at_call 60;refine (ZiF _ _ _ (by decide) (by omega)).mono ?_;rintro e w' ⟨x,rfl,hx,rfl⟩;have HX:=Za hx;clear hx)
 go_ret
 exact ⟨x,rfl,by rw [HE.out];exact HX.out,Nx.rfl.alloc _⟩
def ZbP (u:U):List UInt8:=if u.hp=true then ZbU u.port else []
set_option maxHeartbeats 1000000 in
theorem ZgC (r:Rc) (u:U) (bs:List ByteArray) (w:World) (h:RcIs w r u bs) (ht:Tb w):
  Calls Tryz.prog 42 #[.agg #[.string r.sch,.string r.nam,.string r.pw,.bool r.hh,.string r.host,.bool r.hp,.int .i64 (r.port:Int),.bool r.op,.string r.opath,.slice r.so r.sn r.sc,.bool r.hq,.string r.q,.bool r.hf,.string r.fr]] w fun e w'=>∃ t:ByteArray,e=.returned (.string t)∧tl t=ZbP u∧t.size≤5∧Nx w w':=by
 have hs:=h.lport
 have HD:=Za (show ZbP u=if r.hp=true then ZbU r.port else [] by rw [← h.eq];rfl)
 have HTB:=Za ht
 clear h ht
 cases hhp:r.hp
 ·have HE:=Za (HD.out.trans (if_neg (by rw [hhp];decide)))
  clear HD
  go_enter Tryz.func42,Tryz.ntmps42
  go_wp2
  go_ret
  exact ⟨⟨#[]⟩,rfl,HE.out.symm,by decide,Nx.rfl.alloc _⟩
 ·have HE:=Za (HD.out.trans (if_pos hhp))
  clear HD
  go_enter Tryz.func42,Tryz.ntmps42
  go_wp2_with (go_at_call 59;refine (Zqd r.port hs _ (HTB.out.on (Nx.rfl.alloc _))).mono ?_;rintro e w1 ⟨x,rfl,hx,hn⟩;have HX:=Za hx;have HN:=Za (show Nx w w1 from (Nx.rfl.alloc _).then hn);clear hx hn)
  go_ret
  exact ⟨x,rfl,by rw [HE.out];exact HX.out,by have:=congrArg List.length HX.out;rw [tl_length] at this;have:=Zg8 r.port;omega,HN.out⟩
def Zow (u:U):List UInt8:=if u.nam=[]∧u.pw=[] then [] else if u.pw=[] then u.nam++[64] else u.nam++([58]++u.pw)++[64]
set_option maxHeartbeats 2000000 in
theorem Zsx (r:Rc) (u:U) (bs:List ByteArray) (w:World) (h:RcIs w r u bs):
  Calls Tryz.prog 88 #[.agg #[.string r.sch,.string r.nam,.string r.pw,.bool r.hh,.string r.host,.bool r.hp,.int .i64 (r.port:Int),.bool r.op,.string r.opath,.slice r.so r.sn r.sc,.bool r.hq,.string r.q,.bool r.hf,.string r.fr]] w fun e w'=>∃ t:ByteArray,e=.returned (.string t)∧tl t=Zow u∧t.size≤900000∧Nx w w':=by
 have hs1:=h.lnam
 have hs2:=h.lpw
 have HD:=Za (show Zow u=if tl r.nam=[]∧tl r.pw=[] then [] else if tl r.pw=[] then tl r.nam++[64] else tl r.nam++([58]++tl r.pw)++[64] by rw [← h.eq];rfl)
 clear h
 by_cases hp0:r.pw.size=0
 ·by_cases hn0:r.nam.size=0
  ·have HE:=Za (HD.out.trans (if_pos ⟨ZB hn0,ZB hp0⟩))
   have hp0':=Zo hp0
   have hn0':=Zo hn0
   clear HD hp0 hn0
   go_enter Tryz.func88,Tryz.ntmps88
   go_wp2
   go_ret
   exact ⟨⟨#[]⟩,rfl,HE.out.symm,by decide,Nx.rfl.alloc _⟩
  ·have HE:=Za ((HD.out.trans (if_neg (fun h=>Zdf hn0 h.1))).trans (if_pos (ZB hp0)))
   have hp0':=Zo hp0
   have hn0':=Zi hn0
   clear HD hp0 hn0
   go_enter Tryz.func88,Tryz.ntmps88
   go_wp2
   go_ret
   exact ⟨r.nam++(⟨#[64]⟩:ByteArray),rfl,by rw [HE.out,Ze];rfl,by rw [Zh];show r.nam.size + 1≤_;omega,Nx.rfl.alloc _⟩
 ·have HE:=Za ((HD.out.trans (if_neg (fun h=>Zdf hp0 h.2))).trans (if_neg (Zdf hp0)))
  have hp0':=Zi hp0
  clear HD hp0
  by_cases hn0:r.nam.size=0
  ·have hn0':=Zo hn0
   have hz:r.nam.size≤0:=by omega
   clear hn0
   go_enter Tryz.func88,Tryz.ntmps88
   go_wp2
   go_ret
   exact ⟨r.nam++((⟨#[58]⟩:ByteArray)++r.pw)++(⟨#[64]⟩:ByteArray),rfl,by rw [HE.out,Ze,Ze,Ze];rfl,by rw [Zh,Zh,Zh];show r.nam.size + (1 + r.pw.size) + 1≤_;omega,Nx.rfl.alloc _⟩
  ·have hn0':=Zi hn0
   clear hn0
   go_enter Tryz.func88,Tryz.ntmps88
   go_wp2
   go_ret
   exact ⟨r.nam++((⟨#[58]⟩:ByteArray)++r.pw)++(⟨#[64]⟩:ByteArray),rfl,by rw [HE.out,Ze,Ze,Ze];rfl,by rw [Zh,Zh,Zh];show r.nam.size + (1 + r.pw.size) + 1≤_;omega,Nx.rfl.alloc _⟩
def Zbt (u:U):List UInt8:=if u.hp=true then u.host++[58]++ZbP u else u.host
set_option maxHeartbeats 2000000 in
theorem Zeg (r:Rc) (u:U) (bs:List ByteArray) (w:World) (h:RcIs w r u bs) (ht:Tb w):
  Calls Tryz.prog 41 #[.agg #[.string r.sch,.string r.nam,.string r.pw,.bool r.hh,.string r.host,.bool r.hp,.int .i64 (r.port:Int),.bool r.op,.string r.opath,.slice r.so r.sn r.sc,.bool r.hq,.string r.q,.bool r.hf,.string r.fr]] w fun e w'=>∃ t:ByteArray,e=.returned (.string t)∧tl t=Zbt u∧t.size≤600000∧Nx w w':=by
 have hs:=h.lhost
 have HD:=Za (show Zbt u=if r.hp=true then tl r.host++[58]++ZbP u else tl r.host by rw [← h.eq];rfl)
 have HTB:=Za ht
 have HRC:=Za h
 have HB:=Za (Za0 w r)
 clear h ht
 cases hhp:r.hp
 ·have HE:=Za (HD.out.trans (if_neg (by rw [hhp];decide)))
  clear HD
  go_enter Tryz.func41,Tryz.ntmps41
  go_wp2
  go_ret
  exact ⟨r.host,rfl,HE.out.symm,by omega,Nx.rfl.alloc _⟩
 ·have HE:=Za (HD.out.trans (if_pos hhp))
  have HPT:=Za (fun w1 (hn:Nx w w1)=>ZgC r u bs w1 (HRC.out.on hn) (HTB.out.on hn))
  rw [hhp] at HPT HB
  clear HD
  go_enter Tryz.func41,Tryz.ntmps41
  go_wp2
  go_region_with (go_at_call 42;refine (HPT.out _ ((Nx.rfl.alloc _).drew)).mono ?_;rintro e w1 ⟨x,rfl,hx,hxs,hn⟩;obtain ⟨-,-,-,-,hc4,-⟩:=(RecB.on (RecB.on HB.out Nx.rfl.drew) hn).cells;have HX:=Za hx;have HN:=Za (show Nx w w1 from ((Nx.rfl.alloc _).drew).then hn);clear hx hn)
  all_goals go_wp2
  all_goals go_ret
  all_goals exact ⟨r.host++(⟨#[58]⟩:ByteArray)++x,rfl,by rw [HE.out,Ze,Ze,HX.out];rfl,by rw [Zh,Zh];show r.host.size + 1 + x.size≤_;omega,HN.out⟩
def ZcS (ps:List (List UInt8)):List UInt8:=ps.flatMap fun s=>[47]++s
def ZaU (u:U):List UInt8:=if u.op=true then u.opath else ZcS u.segs
theorem joinSl_snoc (ps:List (List UInt8)) (s:List UInt8):ZcS (ps++[s])=ZcS ps++([47]++s):=by simp [ZcS]
set_option maxHeartbeats 2000000 in
theorem Zeh (r:Rc) (u:U) (bs:List ByteArray) (w:World) (h:RcIs w r u bs):
  Calls Tryz.prog 43 #[.agg #[.string r.sch,.string r.nam,.string r.pw,.bool r.hh,.string r.host,.bool r.hp,.int .i64 (r.port:Int),.bool r.op,.string r.opath,.slice r.so r.sn r.sc,.bool r.hq,.string r.q,.bool r.hf,.string r.fr]] w fun e w'=>∃ t:ByteArray,e=.returned (.string t)∧tl t=ZaU u∧t.size≤200000000000∧Nx w w':=by
 have HD:=Za (show ZaU u=if r.op=true then tl r.opath else ZcS (bs.map tl) by rw [← h.eq];rfl)
 have hlo:=h.lopath
 have hls:=h.lsegs
 have HLS:=Za h.lseg
 have hseg:=h.seg
 clear h
 obtain ⟨sch,nam,pw,hh,host,hp,port,op,opath,so,sn,sc,hq,q,hf,fr⟩:=r
 simp only at *
 obtain ⟨ao,cap,he,hlc,hcap,hnone,hsome⟩:=hseg
 simp only [Value.slice.injEq] at he
 obtain ⟨rfl,rfl,rfl⟩:=he
 unfold maxLen at hcap
 cases op
 ·have HE:=Za (HD.out.trans (if_neg (by decide)))
  clear HD
  go_enter Tryz.func43,Tryz.ntmps43
  go_wp2
  go_loop [3,4] (fun t i=>∃ (k:Nat) (txt:ByteArray),k≤bs.length∧t=.string txt∧i=.int .i64 k∧tl txt=ZcS ((bs.take k).map tl)∧txt.size≤300001 * k) (fun _ i=>bs.length - (intOf i).toNat)
  case atStart=>exact ⟨0,⟨#[]⟩,Nat.zero_le _,rfl,rfl,rfl,by decide⟩
  case round=>
   obtain ⟨k,txt,hk,rfl,rfl,hE,hsz⟩:=hrel
   have HT:=Za hE
   clear hE
   by_cases hlt:k < bs.length
   ·obtain ⟨a,ha⟩:=ZN hlt hnone
    subst ha
    obtain ⟨b,off,rfl,hr⟩:=hsome a rfl
    have hck:=(hr.on (Nx.rfl.alloc (Obj.cells #[.string sch,.string nam,.string pw,.bool hh,.string host,.bool hp,.int .i64 (port:Int),.bool false,.string opath,.slice (some ⟨b,off,none⟩) bs.length sc,.bool hq,.string q,.bool hf,.string fr] 54))).cell hlt
    have hbz:=HLS.out _ (List.getElem_mem hlt)
    have HS:=Za (show (bs.take (k + 1)).map tl=(bs.take k).map tl++[tl bs[k]] by rw [List.take_succ_eq_append_getElem hlt,List.map_append];rfl)
    clear hnone hsome hr
    generalize bs[k]=p at *
    go_wp2
    go_round
    case rel=>exact ⟨k + 1,txt++((⟨#[47]⟩:ByteArray)++p),by omega,rfl,by go_num,by rw [HS.out,joinSl_snoc,Ze,Ze,HT.out];rfl,by rw [Zh,Zh];show txt.size + (1 + p.size)≤_;omega⟩
    case measure=>simp [intOf];omega
   ·have HF:=Za (show tl txt=ZaU u by rw [HT.out,HE.out,List.take_of_length_le (by omega)])
    have hz2:txt.size≤200000000000:=by
     have:300001 * k≤300001 * 300000:=Nat.mul_le_mul_left _ (by omega)
     omega
    clear hnone hsome
    go_wp2
    go_ret
    exact ⟨txt,rfl,HF.out,hz2,Nx.rfl.alloc _⟩
 ·have HE:=Za (HD.out.trans (if_pos rfl))
  clear HD hnone hsome
  go_enter Tryz.func43,Tryz.ntmps43
  go_wp2
  go_ret
  exact ⟨opath,rfl,HE.out.symm,by omega,Nx.rfl.alloc _⟩
def ZiG (u:U):List UInt8:=if u.hh=true then [47,47]++Zow u++Zbt u else if u.op=false∧1 < u.segs.length∧u.segs.getD 0 []=[] then [47,46] else []
set_option maxHeartbeats 4000000 in
theorem Zqf (r:Rc) (u:U) (bs:List ByteArray) (w:World) (h:RcIs w r u bs) (ht:Tb w):
  Calls Tryz.prog 56 #[.agg #[.string r.sch,.string r.nam,.string r.pw,.bool r.hh,.string r.host,.bool r.hp,.int .i64 (r.port:Int),.bool r.op,.string r.opath,.slice r.so r.sn r.sc,.bool r.hq,.string r.q,.bool r.hf,.string r.fr]] w fun e w'=>∃ t:ByteArray,e=.returned (.string t)∧tl t=ZiG u∧t.size≤3000000∧Nx w w':=by
 have HD:=Za (show ZiG u=if r.hh=true then [47,47]++Zow u++Zbt u else if r.op=false∧1 < bs.length∧(bs.map tl).getD 0 []=[] then [47,46] else [] by rw [← List.length_map (f:=tl),← h.eq];rfl)
 have HTB:=Za ht
 have HRC:=Za h
 have HB:=Za (Za0 w r)
 clear h ht
 cases hhh:r.hh
 ·have HE:=Za (HD.out.trans (if_neg (by rw [hhh];decide)))
  have hseg:=HRC.out.seg
  have hls:=HRC.out.lsegs
  clear HD HRC HB
  obtain ⟨sch,nam,pw,hh,host,hp,port,op,opath,so,sn,sc,hq,q,hf,fr⟩:=r
  simp only at *
  obtain ⟨ao,cap,he,hlc,hcap,hnone,hsome⟩:=hseg
  simp only [Value.slice.injEq] at he
  obtain ⟨rfl,rfl,rfl⟩:=he
  unfold maxLen at hcap
  subst hhh
  cases op
  ·by_cases h1:1 < bs.length
   ·have hpos:0 < bs.length:=by omega
    obtain ⟨a,ha⟩:=ZN (k:=0) hpos hnone
    subst ha
    obtain ⟨b,off,rfl,hr⟩:=hsome a rfl
    have hck:=(hr.on (Nx.rfl.alloc (Obj.cells #[.string sch,.string nam,.string pw,.bool false,.string host,.bool hp,.int .i64 (port:Int),.bool false,.string opath,.slice (some ⟨b,off,none⟩) bs.length sc,.bool hq,.string q,.bool hf,.string fr] 54))).cell (i:=0) hpos
    rw [Nat.add_zero] at hck
    rw [Zjq bs hpos] at HE
    clear hnone hsome hr
    by_cases h0:bs[0].size=0
    ·have HE2:=Za (HE.out.trans (if_pos ⟨rfl,h1,ZB h0⟩))
     have h0':=Zo h0
     clear HE h0
     go_enter Tryz.func56,Tryz.ntmps56
     go_wp2
     go_ret
     exact ⟨⟨#[47,46]⟩,rfl,HE2.out.symm,by decide,Nx.rfl.alloc _⟩
    ·have HE2:=Za (HE.out.trans (if_neg (fun h=>Zdf h0 h.2.2)))
     have h0':=Zi h0
     clear HE h0
     go_enter Tryz.func56,Tryz.ntmps56
     go_wp2
     go_ret
     exact ⟨⟨#[]⟩,rfl,HE2.out.symm,by decide,Nx.rfl.alloc _⟩
   ·have HE2:=Za (HE.out.trans (if_neg (fun h=>h1 h.2.1)))
    clear HE hnone hsome
    go_enter Tryz.func56,Tryz.ntmps56
    go_wp2
    go_ret
    exact ⟨⟨#[]⟩,rfl,HE2.out.symm,by decide,Nx.rfl.alloc _⟩
  ·have HE2:=Za (HE.out.trans (if_neg (fun h=>by cases h.1)))
   clear HE hnone hsome
   go_enter Tryz.func56,Tryz.ntmps56
   go_wp2
   go_ret
   exact ⟨⟨#[]⟩,rfl,HE2.out.symm,by decide,Nx.rfl.alloc _⟩
 ·have HE:=Za (HD.out.trans (if_pos hhh))
  have HU:=Za (fun w1 (hn:Nx w w1)=>Zsx r u bs w1 (HRC.out.on hn))
  have HHP:=Za (fun w1 (hn:Nx w w1)=>Zeg r u bs w1 (HRC.out.on hn) (HTB.out.on hn))
  rw [hhh] at HU HHP HB
  clear HD
  go_enter Tryz.func56,Tryz.ntmps56
  go_wp2_with fail
  refine (HU.out _ (Nx.rfl.alloc _)).mono ?_
  rintro e w1 ⟨x,rfl,hx,hxs,hn⟩
  obtain ⟨c0,c1,c2,c3,c4,c5,c6,c7,c8,c9,c10,c11,c12,c13⟩:=(RecB.on HB.out hn).cells
  rw [hhh] at c3
  have HX:=Za hx
  have HN:=Za (show Nx w w1 from (Nx.rfl.alloc _).then hn)
  clear hx hn
  go_wp2_with fail
  refine (HHP.out _ HN.out).mono ?_
  rintro e w2 ⟨y,rfl,hy,hys,hn2⟩
  have HY:=Za hy
  have HN2:=Za (HN.out.then hn2)
  clear hy hn2 c0 c1 c2 c3 c4 c5 c6 c7 c8 c9 c10 c11 c12 c13
  go_wp2
  go_ret
  exact ⟨(⟨#[47,47]⟩:ByteArray)++x++y,rfl,by rw [HE.out,Ze,Ze,HX.out,HY.out];rfl,by rw [Zh,Zh];show 2 + x.size + y.size≤_;omega,HN2.out⟩
def Zl1 (u:U):List UInt8:=Zch u++ZiG u++ZaU u++(if u.hq=true then [63]++u.q else [])++(if u.hf=true then [35]++u.fr else [])
set_option maxHeartbeats 8000000 in
theorem Zng (r:Rc) (u:U) (bs:List ByteArray) (w:World) (h:RcIs w r u bs) (ht:Tb w):
  Calls Tryz.prog 38 #[.agg #[.string r.sch,.string r.nam,.string r.pw,.bool r.hh,.string r.host,.bool r.hp,.int .i64 (r.port:Int),.bool r.op,.string r.opath,.slice r.so r.sn r.sc,.bool r.hq,.string r.q,.bool r.hf,.string r.fr]] w fun e w'=>∃ t:ByteArray,e=.returned (.string t)∧tl t=Zl1 u∧Nx w w':=by
 have HD:=Za (show Zl1 u=Zch u++ZiG u++ZaU u++(if r.hq=true then [63]++tl r.q else [])++(if r.hf=true then [35]++tl r.fr else []) by rw [← h.eq];rfl)
 have hlq:=h.lq
 have hlf:=h.lfr
 have hlp:Zch u=tl r.sch++[58]:=by rw [← h.eq];rfl
 have hls:=h.lsch
 have HTB:=Za ht
 have HRC:=Za h
 have HB:=Za (Za0 w r)
 clear h ht
 go_enter Tryz.func38,Tryz.ntmps38
 go_wp2_with fail
 refine (ZgB r u bs _ (HRC.out.on (Nx.rfl.alloc _))).mono ?_
 rintro e w1 ⟨x1,rfl,hx1,hn1⟩
 have hz1:x1.size≤600000:=by have:=congrArg List.length (hx1.trans hlp);rw [tl_length,List.length_append,tl_length] at this;simp at this;omega
 have HX1:=Za hx1
 have HN1:=Za (show Nx w w1 from (Nx.rfl.alloc _).then hn1)
 have HB1:=Za (RecB.on HB.out hn1)
 clear hx1 hn1 hlp HB
 obtain ⟨c0,c1,c2,c3,c4,c5,c6,c7,c8,c9,c10,c11,c12,c13⟩:=HB1.out.cells
 go_wp2_with fail
 refine (Zqf r u bs _ (HRC.out.on HN1.out) (HTB.out.on HN1.out)).mono ?_
 rintro e w2 ⟨x2,rfl,hx2,hz2,hn2⟩
 have HX2:=Za hx2
 have HN2:=Za (HN1.out.then hn2)
 have HB2:=Za (RecB.on HB1.out hn2)
 clear hx2 hn2 HB1 c0 c1 c2 c3 c4 c5 c6 c7 c8 c9 c10 c11 c12 c13
 obtain ⟨c0,c1,c2,c3,c4,c5,c6,c7,c8,c9,c10,c11,c12,c13⟩:=HB2.out.cells
 go_wp2_with fail
 refine (Zeh r u bs _ (HRC.out.on HN2.out)).mono ?_
 rintro e w3 ⟨x3,rfl,hx3,hz3,hn3⟩
 have HX3:=Za hx3
 have HN3:=Za (HN2.out.then hn3)
 have HB3:=Za (RecB.on HB2.out hn3)
 clear hx3 hn3 HB2 c0 c1 c2 c3 c4 c5 c6 c7 c8 c9 c10 c11 c12 c13
 obtain ⟨-,-,-,-,-,-,-,-,-,-,c10,c11,c12,c13⟩:=HB3.out.cells
 cases hhq:r.hq
 ·rw [hhq] at c10
  rw [hhq] at HD
  cases hhf:r.hf
  ·rw [hhf] at c12
   rw [hhf] at HD
   go_wp2
   go_ret
   exact ⟨x1++x2++x3,rfl,by rw [HD.out,if_neg (by decide),if_neg (by decide),Ze,Ze,HX1.out,HX2.out,HX3.out,List.append_nil,List.append_nil],HN3.out⟩
  ·rw [hhf] at c12
   rw [hhf] at HD
   go_wp2
   go_ret
   exact ⟨x1++x2++x3++((⟨#[35]⟩:ByteArray)++r.fr),rfl,by rw [HD.out,if_neg (by decide),if_pos trivial,Ze,Ze,Ze,Ze,HX1.out,HX2.out,HX3.out,List.append_nil];rfl,HN3.out⟩
 ·rw [hhq] at c10
  rw [hhq] at HD
  cases hhf:r.hf
  ·rw [hhf] at c12
   rw [hhf] at HD
   go_wp2
   go_ret
   exact ⟨x1++x2++x3++((⟨#[63]⟩:ByteArray)++r.q),rfl,by rw [HD.out,if_pos trivial,if_neg (by decide),Ze,Ze,Ze,Ze,HX1.out,HX2.out,HX3.out,List.append_nil];rfl,HN3.out⟩
  ·rw [hhf] at c12
   rw [hhf] at HD
   go_wp2
   go_ret
   exact ⟨x1++x2++x3++((⟨#[63]⟩:ByteArray)++r.q)++((⟨#[35]⟩:ByteArray)++r.fr),rfl,by rw [HD.out,if_pos trivial,if_pos trivial,Ze,Ze,Ze,Ze,Ze,Ze,HX1.out,HX2.out,HX3.out];rfl,HN3.out⟩
end Go.Proofs.YtchkhibgbnhjpaaGreatDoor
