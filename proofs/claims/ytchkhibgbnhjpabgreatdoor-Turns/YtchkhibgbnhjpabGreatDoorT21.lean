import Derived.Test.YtchkhibgbnhjpabGreatDoorT12
import Derived.Test.YtchkhibgbnhjpabGreatDoorT20
open Bool renaming and_eq_true→Xa,and_eq_false_iff→Xc
open List renaming any_eq_false→Xb,mem_cons_of_mem→Xd,append_assoc→Xe,all_eq_true→Xf,drop_left→Xg
namespace Go.Proofs.YtchkhibgbnhjpabGreatDoor
open Go.RowKit
set_option maxHeartbeats 4000000
structure Sm (l:List UInt8):Prop where
 ne:l≠[]
 lt:l.length<10
 let_:∀b∈l,97≤b.toNat∧b.toNat≤122
theorem Zxe{l:LB}(h:ZuU l=true):Sm l:=by
 unfold ZuU at h;rw[Xa,Xa,decide_eq_true_eq,decide_eq_true_eq]at h
 refine⟨fun e=>by rw[e]at h;simp at h,h.2.2,fun b hb=>?_⟩
 have:=Xf.1 h.1 b hb;unfold ZAN at this;rw[Xa,decide_eq_true_eq,decide_eq_true_eq]at this;exact this
theorem Sm.clean{l:LB}(h:Sm l):Go.Proofs.YtchkhibgbnhjpabGreatDoor.clean l=l:=Zcc (fun b hb=>by have:=h.let_ b hb;omega)
theorem ZAO:∀n:Fin 256,97≤n.1→n.1≤122→(Zx (n.1:Int) (tl (ZaN 0))||Zx (n.1:Int) (tl (ZaN 1))||Zx (n.1:Int) (tl (ZaN 2))||Zx (n.1:Int) (tl (ZaN 3))||Zx (n.1:Int) (tl (ZaN 4))||Zx (n.1:Int) (tl (ZaN 5))||Zx (n.1:Int) ZdN)=false:=by decide +kernel
theorem Sm.sets{l:LB}(h:Sm l)(b:UInt8)(hb:b∈l):Zx (b.toNat:Int) (tl (ZaN 0))=false∧Zx (b.toNat:Int) (tl (ZaN 1))=false∧Zx (b.toNat:Int) (tl (ZaN 2))=false∧Zx (b.toNat:Int) (tl (ZaN 3))=false∧Zx (b.toNat:Int) (tl (ZaN 4))=false∧Zx (b.toNat:Int) (tl (ZaN 5))=false∧Zx (b.toNat:Int) ZdN=false:=by obtain⟨h1,h2⟩:=h.let_ b hb;have:=ZAO ⟨b.toNat,b.toNat_lt⟩ h1 h2;simp only[Bool.or_eq_false_iff]at this;obtain⟨⟨⟨⟨⟨⟨a,b⟩,c⟩,d⟩,e⟩,f⟩,g⟩:=this;exact⟨a,b,c,d,e,f,g⟩
theorem Sm.asis{l:LB}(h:Sm l){set:LB}(hs:∀b∈l,Zx (b.toNat:Int) set=false):Asis set l:=fun b hb=>⟨by have:=h.let_ b hb;omega,by have:=h.let_ b hb;omega,hs b hb⟩
theorem Sm.breaks{l:LB}(h:Sm l):noBreaks l=l:=by
 unfold noBreaks
 refine List.filter_eq_self.2 fun b hb=>?_
 have:=h.let_ b hb;unfold Zc3
 have e1:((b.toNat:Int)==9)=false:=beq_eq_false_iff_ne.2 (by omega)
 have e2:((b.toNat:Int)==10)=false:=beq_eq_false_iff_ne.2 (by omega)
 have e3:((b.toNat:Int)==13)=false:=beq_eq_false_iff_ne.2 (by omega)
 rw[e1,e2,e3];rfl
theorem Sm.getD{l:LB}(h:Sm l):97≤(l.getD 0 0).toNat∧(l.getD 0 0).toNat≤122:=by
 cases l with
 | nil=>exact absurd rfl h.ne
 | cons c r=>exact h.let_ c (by simp)
theorem Sm.mark{l:LB}(h:Sm l){n:Int}(hn:n<97):Zu5 n l=l:=by
 unfold Zu5;have:=h.getD
 rw[if_neg (by rintro⟨-,g⟩;omega)]
theorem Sm.search{l:LB}(h:Sm l)(sch:LB):ZvA sch l=l:=by
 unfold ZvA
 rw[h.mark (by decide),h.breaks]
 refine Asis.clean (h.asis fun b hb=>?_)
 unfold Zbr
 split
 ·exact(h.sets b hb).2.2.2.1
 ·exact(h.sets b hb).2.2.1
theorem Sm.hash{l:LB}(h:Sm l):Zym l=l:=by
 unfold Zym
 rw[h.mark (by decide),h.breaks]
 exact Asis.clean (h.asis fun b hb=>(h.sets b hb).2.1)
theorem Sm.user{l:LB}(h:Sm l):Zgn l=l:=Asis.clean (h.asis fun b hb=>(h.sets b hb).2.2.2.2.2.1)
theorem Sm.hostT{l:LB}(h:Sm l):HostT l:=Or.inr fun b hb=>by
 have:=h.let_ b hb
 have ne:∀c:UInt8,c.toNat<97∨122<c.toNat→b≠c:=fun c hc e=>by subst e;omega
 exact⟨ne _ (by decide),ne _ (by decide),ne _ (by decide),ne _ (by decide),ne _ (by decide),ne _ (by decide),ne _ (by decide),ne _ (by decide),ne _ (by decide),ne _ (by decide)⟩
theorem Sm.no{l:LB}(h:Sm l){n:Int}(hn:n<97):∀b∈l,isB n b=false:=fun b hb=>by
 have:=h.let_ b hb
 exact beq_eq_false_iff_ne.2 (by omega)
theorem Sm.sl{l:LB}(h:Sm l)(sp:Bool):∀b∈l,slB sp b=false:=fun b hb=>by
 have:=h.let_ b hb
 exact Zty (fun e=>by subst e;exact absurd this.1 (by decide)) (fun e=>by subst e;exact absurd this.1 (by decide))
theorem Sm.ahead{l:LB}(h:Sm l)(sp:Bool):ZuJ sp l=l:=by
 unfold ZuJ
 rw[h.breaks,ZhP (h.sl sp),ZhP (h.no (by decide)),ZhP (h.no (by decide))]
theorem Sm.num{l:LB}(h:Sm l)(m:Int):(Zv l 10 m).2=false:=by
 rw[ZwV]
 cases l with
 | nil=>exact absurd rfl h.ne
 | cons c r=>
  rw[List.all_cons]
  have:=h.let_ c (by simp)
  have e:Znc (c.toNat:Int)=false:=decide_eq_false (by omega)
  rw[e]
  rfl
theorem Sm.domain{l:LB}(h:Sm l):ZaA l=(l,0):=by
 have h1:Zr l=l:=Zg4 (fun b hb e=>by have:=h.let_ b hb;subst e;exact absurd this.1 (by decide))
 have h2:Zae l=l:=Zlb (fun b hb=>by have:=h.let_ b hb;omega)
 have h3:bsplit 46 l=[l]:=ZxT (h.no (by decide))
 unfold ZaA;rw[h1,h2,h3]
 have e1:beyondB l=false:=by
  unfold beyondB;rw[Xb];intro b hb;have:=h.let_ b hb
  simp
  omega
 have e2:ZrY [l]=false:=by
  unfold ZrY ZbO;rw[List.any_cons,List.any_nil,Bool.or_false,Xc]
  right
  refine beq_eq_false_iff_ne.2 fun e=>?_
  have:(45:UInt8)∈l:=List.mem_of_mem_take (i:=4) (by rw[e];simp)
  exact absurd (h.let_ _ this).1 (by decide)
 have e3:plainDom l=true:=by
  unfold plainDom
  have:l.any Zig=false:=by
   rw[Xb];intro b hb;have h4:=h.let_ b hb;have h5:=(h.sets b hb).2.2.2.2.2.2;unfold Zig
   rw[h5,decide_eq_false (by omega),beq_eq_false_iff_ne.2 (by omega:(b.toNat:Int)≠37),beq_eq_false_iff_ne.2 (by omega:(b.toNat:Int)≠127)]
   decide
  rw[this]
  cases l with
  | nil=>exact absurd rfl h.ne
  | cons c r=>rfl
 have e4:ZbP (ZdQ [l])=false:=by
  have:ZdQ [l]=[l]:=if_neg (by simp)
  rw[this];unfold ZbP ZJ;have hg:=h.getD
  rw[if_neg (by simp)]
  show((Zv l 10 4294967295).2||(if l.length<2∨¬((l.getD 0 0).toNat:Int)=48 then Zv l 10 4294967295 else _).2)=false
  rw[if_pos (Or.inr (by omega)),h.num]
  rfl
 rw[e1,e2,if_neg (by decide),e3,if_neg (by decide)]
 unfold Zc2;rw[if_pos e4]
theorem Sm.hostL{l:LB}(h:Sm l)(sp:Bool):Go.Proofs.YtchkhibgbnhjpabGreatDoor.ZI l sp=(l,0):=by
 unfold Go.Proofs.YtchkhibgbnhjpabGreatDoor.ZI;have:=h.getD
 rw[if_neg (by omega)]
 split
 ·exact h.domain
 ·unfold Zbk
  have:(l.any fun b=>Zx b.toNat ZdN)=false:=by
   rw[Xb];intro b hb;rw[(h.sets b hb).2.2.2.2.2.2]
   decide
  rw[this,if_neg (by decide)]
  rw[Asis.clean (h.asis fun b hb=>(h.sets b hb).1)]
theorem Sm.split{l:LB}{p:UInt8→Bool}(h:∀b∈l,p b=false):Zbl p l=[l]:=by
 induction l with
 | nil=>rfl
 | cons c r ih=>
  unfold Zbl
  rw[if_neg (by rw[h c (by simp)];decide),ih (fun b hb=>h b (Xd _ hb))]
theorem Sm.read{l:LB}(h:Sm l)(sch:LB):Zbg (Zu1 (Zb sch) l) sch=[l]:=by
 have e1:Zu1 (Zb sch) l=l:=by
  unfold Zu1
  cases l with
  | nil=>rfl
  | cons c r=>exact if_neg (by rw[h.sl (Zb sch) c (by simp)];decide)
 have hg:=h.getD
 have e2:countDots l=0:=by
  unfold countDots Zm8;rw[if_neg h.ne,if_pos];unfold dotSize
  rw[if_neg (by omega),if_neg (by rintro⟨-,g,-⟩;omega)]
 have e3:Zaf l=false:=by
  unfold Zaf
  split
  ·next a b=>
   have:=h.let_ b (by simp)
   have e1:((b.toNat:Int)==58)=false:=beq_eq_false_iff_ne.2 (by omega)
   have e2:((b.toNat:Int)==124)=false:=beq_eq_false_iff_ne.2 (by omega)
   rw[e1,e2]
   simp
  ·rfl
 rw[e1];unfold Zbg ZaR;rw[Sm.split (h.sl (Zb sch))]
 show ZcF (sch==Zw) [] l true=[l]
 unfold ZcF;rw[if_pos e2];unfold joinL
 rw[if_neg (by rintro⟨-,-,g⟩;rw[e3]at g;cases g),Asis.clean (h.asis fun b hb=>(h.sets b hb).2.2.2.2.1)]
 rfl
theorem Sm.sc{l:LB}(h:Sm l):ScOk l:=by
 have hsb:Zbq l=true:=by
  unfold Zbq
  cases l with
  | nil=>exact absurd rfl h.ne
  | cons c r=>
   have hc:=h.let_ c (by simp)
   show(Zbv c.toNat&&r.all ZfP)=true
   rw[Xa]
   refine⟨decide_eq_true (Or.inl (by omega)),Xf.2 fun b hb=>?_⟩
   have:=h.let_ b (Xd _ hb);unfold ZfP;rw[Bool.or_eq_true]
   exact Or.inr (decide_eq_true (Or.inl (by omega)))
 have g:=Zg8 hsb
 have e:Zae l=l:=Zlb (fun b hb=>by have:=h.let_ b hb;omega)
 rwa [e]at g
theorem Zxf{u:U}(h:St u)(ho:u.op=true):Zvo (pathU u)=true∧Zu7 (Zdg u) (Zad u)=false:=by
 obtain⟨h1,h2,h3,-⟩:=h.st.opq ho;have hp:pathU u=u.opath:=if_pos ho
 have hc:∀c r,u.opath=c::r→c≠47:=fun c r e g=>by
  rw[e,g,ZbN]at h3
  cases h3
 refine⟨?_,?_⟩
 ·rw[hp]
  cases e:u.opath with
  | nil=>rfl
  | cons c r=>exact bne_iff_ne.2 (hc c r e)
 ·have hf:Zbb u=[]:=by unfold Zbb;rw[if_neg (by rw[h2];decide),if_neg (by rintro⟨g,-⟩;rw[ho]at g;cases g)]
  unfold Zu7;rw[Xc]
  right
  refine beq_eq_false_iff_ne.2 fun e=>?_
  unfold Zdg at e;rw[hf,List.append_nil,hp]at e;have e2:=congrArg (List.drop (Zad u).length) e
  rw[Xg,List.drop_take,show(Zad u).length+2-(Zad u).length=2 by omega,Xe,Xe,Xg]at e2
  cases eo:u.opath with
  | cons c r=>
   rw[eo]at e2
   have:=congrArg (fun z=>z.getD 0 0) e2
   exact hc c r eo (by simpa using this)
  | nil=>
   rw[eo,List.nil_append]at e2
   cases hq:u.hq
   ·cases hf2:u.hf
    ·rw[hq,hf2]at e2;simp at e2
    ·rw[hq,hf2]at e2;simp at e2
   ·rw[hq]at e2;simp at e2
theorem ZzO(pb:Nat)(r:Rc)(u:U)(bs:LA)(s:BA)(w:World)(hu:UrlB w pb r)(hr:RcIs w r u bs)(ht:Tb w)(hb:bs.length≤30001):Calls Tryz.prog 32 #[.pointer (some ⟨pb,0,none⟩),.int .i64 0,.string s] w fun e w'=>ZuV e w w' pb (decide (160<s.size)) (ZuW u 0 (tl s)):=by
 have HS:=Za (ZxM pb r u bs s w hu hr ht hb);clear hu hr ht
 go_enter Tryz.func32,Tryz.ntmps32
 go_wp2_with fail
 refine HS.out.mono ?_
 rintro e w1 h;rcases h with⟨h1,rfl,hn⟩|⟨h1,h2,rfl,hn⟩|⟨h1,h2,rfl,hx,hbt⟩
 ·have H:=Za (show ZuV (.returned (.int .i64 1)) w w1 pb (decide (160<s.size)) (ZuW u 0 (tl s))from Or.inl ⟨h1,rfl,hn⟩)
  clear h1 hn HS;go_wp2;go_ret;exact H.out
 ·have H:=Za (show ZuV (.returned (.int .i64 (ZuW u 0 (tl s)).2)) w w1 pb (decide (160<s.size)) (ZuW u 0 (tl s))from Or.inr (Or.inl ⟨h1,h2,rfl,hn⟩))
  clear h1 h2 hn HS;go_wp2;go_ret;exact H.out
 ·have H:=Za (show ZuV (.returned (.int .i64 0)) w w1 pb (decide (160<s.size)) (ZuW u 0 (tl s))from Or.inr (Or.inr ⟨h1,h2,rfl,hx,hbt⟩))
  clear h1 h2 hx hbt HS;go_wp2;go_ret;exact H.out
theorem ZzP(pb:Nat)(r:Rc)(u:U)(bs:LA)(s:BA)(w:World)(hu:UrlB w pb r)(hr:RcIs w r u bs)(ht:Tb w)(hb:bs.length≤30001):Calls Tryz.prog 32 #[.pointer (some ⟨pb,0,none⟩),.int .i64 1,.string s] w fun e w'=>ZuV e w w' pb (decide (160<s.size)) (ZuW u 1 (tl s)):=by
 have HS:=Za (Zwd pb r u bs s w hu hr ht hb);clear hu hr ht
 go_enter Tryz.func32,Tryz.ntmps32
 go_wp2_with fail
 refine HS.out.mono ?_
 rintro e w1 h;rcases h with⟨h1,rfl,hn⟩|⟨h1,h2,rfl,hn⟩|⟨h1,h2,rfl,hx,hbt⟩
 ·have H:=Za (show ZuV (.returned (.int .i64 1)) w w1 pb (decide (160<s.size)) (ZuW u 1 (tl s))from Or.inl ⟨h1,rfl,hn⟩)
  clear h1 hn HS;go_wp2;go_ret;exact H.out
 ·have H:=Za (show ZuV (.returned (.int .i64 (ZuW u 1 (tl s)).2)) w w1 pb (decide (160<s.size)) (ZuW u 1 (tl s))from Or.inr (Or.inl ⟨h1,h2,rfl,hn⟩))
  clear h1 h2 hn HS;go_wp2;go_ret;exact H.out
 ·have H:=Za (show ZuV (.returned (.int .i64 0)) w w1 pb (decide (160<s.size)) (ZuW u 1 (tl s))from Or.inr (Or.inr ⟨h1,h2,rfl,hx,hbt⟩))
  clear h1 h2 hx hbt HS;go_wp2;go_ret;exact H.out
theorem ZzQ(pb:Nat)(r:Rc)(u:U)(bs:LA)(s:BA)(w:World)(hu:UrlB w pb r)(hr:RcIs w r u bs)(ht:Tb w)(hb:bs.length≤30001):Calls Tryz.prog 32 #[.pointer (some ⟨pb,0,none⟩),.int .i64 2,.string s] w fun e w'=>ZuV e w w' pb (decide (160<s.size)) (ZuW u 2 (tl s)):=by
 have HS:=Za (Zwe pb r u bs s w hu hr ht hb);clear hu hr ht
 go_enter Tryz.func32,Tryz.ntmps32
 go_wp2_with fail
 refine HS.out.mono ?_
 rintro e w1 h;rcases h with⟨h1,rfl,hn⟩|⟨h1,h2,rfl,hn⟩|⟨h1,h2,rfl,hx,hbt⟩
 ·have H:=Za (show ZuV (.returned (.int .i64 1)) w w1 pb (decide (160<s.size)) (ZuW u 2 (tl s))from Or.inl ⟨h1,rfl,hn⟩)
  clear h1 hn HS;go_wp2;go_ret;exact H.out
 ·have H:=Za (show ZuV (.returned (.int .i64 (ZuW u 2 (tl s)).2)) w w1 pb (decide (160<s.size)) (ZuW u 2 (tl s))from Or.inr (Or.inl ⟨h1,h2,rfl,hn⟩))
  clear h1 h2 hn HS;go_wp2;go_ret;exact H.out
 ·have H:=Za (show ZuV (.returned (.int .i64 0)) w w1 pb (decide (160<s.size)) (ZuW u 2 (tl s))from Or.inr (Or.inr ⟨h1,h2,rfl,hx,hbt⟩))
  clear h1 h2 hx hbt HS;go_wp2;go_ret;exact H.out
theorem ZzR(pb:Nat)(r:Rc)(u:U)(bs:LA)(s:BA)(w:World)(hu:UrlB w pb r)(hr:RcIs w r u bs)(ht:Tb w)(hb:bs.length≤30001):Calls Tryz.prog 32 #[.pointer (some ⟨pb,0,none⟩),.int .i64 3,.string s] w fun e w'=>ZuV e w w' pb (decide (160<s.size)) (ZuW u 3 (tl s)):=by
 have HS:=Za (Zwf pb r u bs s w hu hr ht hb);clear hu hr ht
 go_enter Tryz.func32,Tryz.ntmps32
 go_wp2_with fail
 refine HS.out.mono ?_
 rintro e w1 h;rcases h with⟨h1,rfl,hn⟩|⟨h1,h2,rfl,hn⟩|⟨h1,h2,rfl,hx,hbt⟩
 ·have H:=Za (show ZuV (.returned (.int .i64 1)) w w1 pb (decide (160<s.size)) (ZuW u 3 (tl s))from Or.inl ⟨h1,rfl,hn⟩)
  clear h1 hn HS;go_wp2;go_ret;exact H.out
 ·have H:=Za (show ZuV (.returned (.int .i64 (ZuW u 3 (tl s)).2)) w w1 pb (decide (160<s.size)) (ZuW u 3 (tl s))from Or.inr (Or.inl ⟨h1,h2,rfl,hn⟩))
  clear h1 h2 hn HS;go_wp2;go_ret;exact H.out
 ·have H:=Za (show ZuV (.returned (.int .i64 0)) w w1 pb (decide (160<s.size)) (ZuW u 3 (tl s))from Or.inr (Or.inr ⟨h1,h2,rfl,hx,hbt⟩))
  clear h1 h2 hx hbt HS;go_wp2;go_ret;exact H.out
theorem ZzS(pb:Nat)(r:Rc)(u:U)(bs:LA)(s:BA)(w:World)(hu:UrlB w pb r)(hr:RcIs w r u bs)(ht:Tb w)(hb:bs.length≤30001):Calls Tryz.prog 32 #[.pointer (some ⟨pb,0,none⟩),.int .i64 4,.string s] w fun e w'=>ZuV e w w' pb (decide (160<s.size)) (ZuW u 4 (tl s)):=by
 have HS:=Za (ZxN pb r u bs s w hu hr ht hb);clear hu hr ht
 go_enter Tryz.func32,Tryz.ntmps32
 go_wp2_with fail
 refine HS.out.mono ?_
 rintro e w1 h;rcases h with⟨h1,rfl,hn⟩|⟨h1,h2,rfl,hn⟩|⟨h1,h2,rfl,hx,hbt⟩
 ·have H:=Za (show ZuV (.returned (.int .i64 1)) w w1 pb (decide (160<s.size)) (ZuW u 4 (tl s))from Or.inl ⟨h1,rfl,hn⟩)
  clear h1 hn HS;go_wp2;go_ret;exact H.out
 ·have H:=Za (show ZuV (.returned (.int .i64 (ZuW u 4 (tl s)).2)) w w1 pb (decide (160<s.size)) (ZuW u 4 (tl s))from Or.inr (Or.inl ⟨h1,h2,rfl,hn⟩))
  clear h1 h2 hn HS;go_wp2;go_ret;exact H.out
 ·have H:=Za (show ZuV (.returned (.int .i64 0)) w w1 pb (decide (160<s.size)) (ZuW u 4 (tl s))from Or.inr (Or.inr ⟨h1,h2,rfl,hx,hbt⟩))
  clear h1 h2 hx hbt HS;go_wp2;go_ret;exact H.out
theorem ZzT(pb:Nat)(r:Rc)(u:U)(bs:LA)(s:BA)(w:World)(hu:UrlB w pb r)(hr:RcIs w r u bs)(ht:Tb w)(hb:bs.length≤30001):Calls Tryz.prog 32 #[.pointer (some ⟨pb,0,none⟩),.int .i64 5,.string s] w fun e w'=>ZuV e w w' pb (decide (160<s.size)) (ZuW u 5 (tl s)):=by
 have HS:=Za (Zwg pb r u bs s w hu hr ht hb);clear hu hr ht
 go_enter Tryz.func32,Tryz.ntmps32
 go_wp2_with fail
 refine HS.out.mono ?_
 rintro e w1 h;rcases h with⟨h1,rfl,hn⟩|⟨h1,h2,rfl,hn⟩|⟨h1,h2,rfl,hx,hbt⟩
 ·have H:=Za (show ZuV (.returned (.int .i64 1)) w w1 pb (decide (160<s.size)) (ZuW u 5 (tl s))from Or.inl ⟨h1,rfl,hn⟩)
  clear h1 hn HS;go_wp2;go_ret;exact H.out
 ·have H:=Za (show ZuV (.returned (.int .i64 (ZuW u 5 (tl s)).2)) w w1 pb (decide (160<s.size)) (ZuW u 5 (tl s))from Or.inr (Or.inl ⟨h1,h2,rfl,hn⟩))
  clear h1 h2 hn HS;go_wp2;go_ret;exact H.out
 ·have H:=Za (show ZuV (.returned (.int .i64 0)) w w1 pb (decide (160<s.size)) (ZuW u 5 (tl s))from Or.inr (Or.inr ⟨h1,h2,rfl,hx,hbt⟩))
  clear h1 h2 hx hbt HS;go_wp2;go_ret;exact H.out
theorem ZzU(pb:Nat)(r:Rc)(u:U)(bs:LA)(s:BA)(w:World)(hu:UrlB w pb r)(hr:RcIs w r u bs)(ht:Tb w)(hb:bs.length≤30001):Calls Tryz.prog 32 #[.pointer (some ⟨pb,0,none⟩),.int .i64 6,.string s] w fun e w'=>ZuV e w w' pb (decide (160<s.size)) (ZuW u 6 (tl s)):=by
 have HS:=Za (ZxO pb r u bs s w hu hr ht hb);clear hu hr ht
 go_enter Tryz.func32,Tryz.ntmps32
 go_wp2_with fail
 refine HS.out.mono ?_
 rintro e w1 h;rcases h with⟨h1,rfl,hn⟩|⟨h1,h2,rfl,hn⟩|⟨h1,h2,rfl,hx,hbt⟩
 ·have H:=Za (show ZuV (.returned (.int .i64 1)) w w1 pb (decide (160<s.size)) (ZuW u 6 (tl s))from Or.inl ⟨h1,rfl,hn⟩)
  clear h1 hn HS;go_wp2;go_ret;exact H.out
 ·have H:=Za (show ZuV (.returned (.int .i64 (ZuW u 6 (tl s)).2)) w w1 pb (decide (160<s.size)) (ZuW u 6 (tl s))from Or.inr (Or.inl ⟨h1,h2,rfl,hn⟩))
  clear h1 h2 hn HS;go_wp2;go_ret;exact H.out
 ·have H:=Za (show ZuV (.returned (.int .i64 0)) w w1 pb (decide (160<s.size)) (ZuW u 6 (tl s))from Or.inr (Or.inr ⟨h1,h2,rfl,hx,hbt⟩))
  clear h1 h2 hx hbt HS;go_wp2;go_ret;exact H.out
theorem ZzV(pb:Nat)(r:Rc)(u:U)(bs:LA)(s:BA)(w:World)(hu:UrlB w pb r)(hr:RcIs w r u bs)(ht:Tb w)(hb:bs.length≤30001):Calls Tryz.prog 32 #[.pointer (some ⟨pb,0,none⟩),.int .i64 7,.string s] w fun e w'=>ZuV e w w' pb (decide (160<s.size)) (ZuW u 7 (tl s)):=by
 have HS:=Za (Zwh pb r u bs s w hu hr ht hb);clear hu hr ht
 go_enter Tryz.func32,Tryz.ntmps32
 go_wp2_with fail
 refine HS.out.mono ?_
 rintro e w1 h;rcases h with⟨h1,rfl,hn⟩|⟨h1,h2,rfl,hn⟩|⟨h1,h2,rfl,hx,hbt⟩
 ·have H:=Za (show ZuV (.returned (.int .i64 1)) w w1 pb (decide (160<s.size)) (ZuW u 7 (tl s))from Or.inl ⟨h1,rfl,hn⟩)
  clear h1 hn HS;go_wp2;go_ret;exact H.out
 ·have H:=Za (show ZuV (.returned (.int .i64 (ZuW u 7 (tl s)).2)) w w1 pb (decide (160<s.size)) (ZuW u 7 (tl s))from Or.inr (Or.inl ⟨h1,h2,rfl,hn⟩))
  clear h1 h2 hn HS;go_wp2;go_ret;exact H.out
 ·have H:=Za (show ZuV (.returned (.int .i64 0)) w w1 pb (decide (160<s.size)) (ZuW u 7 (tl s))from Or.inr (Or.inr ⟨h1,h2,rfl,hx,hbt⟩))
  clear h1 h2 hx hbt HS;go_wp2;go_ret;exact H.out
theorem ZzW(pb:Nat)(r:Rc)(u:U)(bs:LA)(s:BA)(w:World)(hu:UrlB w pb r)(hr:RcIs w r u bs)(ht:Tb w)(hb:bs.length≤30001):Calls Tryz.prog 32 #[.pointer (some ⟨pb,0,none⟩),.int .i64 8,.string s] w fun e w'=>ZuV e w w' pb (decide (160<s.size)) (ZuW u 8 (tl s)):=by
 have HS:=Za (Zw7 pb r u bs s w hu hr ht hb);clear hu hr ht
 go_enter Tryz.func32,Tryz.ntmps32
 go_wp2_with fail
 refine HS.out.mono ?_
 rintro e w1 h;rcases h with⟨h1,rfl,hn⟩|⟨h1,h2,rfl,hn⟩|⟨h1,h2,rfl,hx,hbt⟩
 ·have H:=Za (show ZuV (.returned (.int .i64 1)) w w1 pb (decide (160<s.size)) (ZuW u 8 (tl s))from Or.inl ⟨h1,rfl,hn⟩)
  clear h1 hn HS;go_wp2;go_ret;exact H.out
 ·have H:=Za (show ZuV (.returned (.int .i64 (ZuW u 8 (tl s)).2)) w w1 pb (decide (160<s.size)) (ZuW u 8 (tl s))from Or.inr (Or.inl ⟨h1,h2,rfl,hn⟩))
  clear h1 h2 hn HS;go_wp2;go_ret;exact H.out
 ·have H:=Za (show ZuV (.returned (.int .i64 0)) w w1 pb (decide (160<s.size)) (ZuW u 8 (tl s))from Or.inr (Or.inr ⟨h1,h2,rfl,hx,hbt⟩))
  clear h1 h2 hx hbt HS;go_wp2;go_ret;exact H.out
theorem ZzX(pb:Nat)(r:Rc)(u:U)(bs:LA)(s:BA)(w:World)(hu:UrlB w pb r)(hr:RcIs w r u bs)(ht:Tb w)(hb:bs.length≤30001):Calls Tryz.prog 32 #[.pointer (some ⟨pb,0,none⟩),.int .i64 9,.string s] w fun e w'=>ZuV e w w' pb (decide (160<s.size)) (ZuW u 9 (tl s)):=by
 have HS:=Za (ZxP pb r u bs s w hu hr ht hb);clear hu hr ht
 go_enter Tryz.func32,Tryz.ntmps32
 go_wp2_with fail
 refine HS.out.mono ?_
 rintro e w1 h;rcases h with⟨h1,rfl,hn⟩|⟨h1,h2,rfl,hn⟩|⟨h1,h2,rfl,hx,hbt⟩
 ·have H:=Za (show ZuV (.returned (.int .i64 1)) w w1 pb (decide (160<s.size)) (ZuW u 9 (tl s))from Or.inl ⟨h1,rfl,hn⟩)
  clear h1 hn HS;go_wp2;go_ret;exact H.out
 ·have H:=Za (show ZuV (.returned (.int .i64 (ZuW u 9 (tl s)).2)) w w1 pb (decide (160<s.size)) (ZuW u 9 (tl s))from Or.inr (Or.inl ⟨h1,h2,rfl,hn⟩))
  clear h1 h2 hn HS;go_wp2;go_ret;exact H.out
 ·have H:=Za (show ZuV (.returned (.int .i64 0)) w w1 pb (decide (160<s.size)) (ZuW u 9 (tl s))from Or.inr (Or.inr ⟨h1,h2,rfl,hx,hbt⟩))
  clear h1 h2 hx hbt HS;go_wp2;go_ret;exact H.out
end Go.Proofs.YtchkhibgbnhjpabGreatDoor
