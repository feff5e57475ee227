import Derived.Test.YtchkhibgbnhjpabGreatDoorProg
import Derived.WalkKit
import Derived.WalkSpells
import Derived.WalkLawsBesides
import Derived.Laws.IdiomStrings
import Derived.Laws.BytesArg
import Derived.Lib.UnsafeStr
import Derived.Deep.RegionLaw
import Derived.Deep.RegionHeldLaw
open Array renaming getElem?_eq_some_iff→Xa
open List renaming concat_eq_append→Xb,take_of_length_le→Xc,length_append→Xd,take_succ_eq_append_getElem→Xe,drop_eq_getElem_cons→Xg,getElem?_eq_getElem→Xh,drop_of_length_le→Xi,length_take_le→Xj,getElem_mem→Xk,length_cons→Xl,eq_nil_of_length_eq_zero→Xm,getElem_concat_length→Xn,eq_nil_or_concat→Xp,append_assoc→Xq,length_take→Xr,length_drop→Xs,length_map→Xu,length_nil→Xv
open Nat renaming zero_le→Xf,zero_add→Xo,mul_le_mul→Xw,le_refl→Xx
namespace Go.Proofs.YtchkhibgbnhjpabGreatDoor
open Go.RowKit
set_option maxHeartbeats 800000
abbrev LB:=List UInt8
abbrev LI:=List Int
abbrev LA:=List ByteArray
abbrev BA:=ByteArray
def tl(s:ByteArray):List UInt8:=s.data.toList
theorem tl_length(s:BA):(tl s).length=s.size:=by unfold tl ByteArray.size;rw[Array.length_toList]
theorem Zep(s:BA)(k:Nat)(h:k<s.size):(tl s)[k]'(by rw[tl_length];exact h)=s[k]:=rfl
theorem Zv(s:BA)(k:Nat)(h:k<s.size):(tl s).take (k+1)=(tl s).take k++[s[k]]:=by rw[Xe (by rw[tl_length];exact h),Zep s k h]
theorem ZD(s:BA)(k:Nat)(h:k<s.size):(tl s).drop k=s[k]::(tl s).drop (k+1):=by rw[Xg (by rw[tl_length];exact h),Zep s k h]
theorem ZY(s:BA)(k:Nat)(h:s.size≤k):(tl s).take k=tl s:=Xc (by rw[tl_length];exact h)
theorem Zu(s:BA)(k:Nat)(h:s.size≤k):(tl s).drop k=[]:=Xi (by rw[tl_length];exact h)
theorem tl_mk(l:LB):tl ⟨l.toArray⟩=l:=by simp[tl]
theorem tl_extract(s:BA)(a b:Nat):tl (s.extract a b)=((tl s).take b).drop a:=by unfold tl;rw[ByteArray.data_extract,Array.toList_extract,List.extract_eq_take_drop,List.drop_take]
theorem Zdj{s t:BA}(h:tl s=tl t):s=t:=by cases s with|mk a=>cases t with|mk b=>unfold tl at h;congr;exact Array.toList_inj.1 h
theorem Za{p:Prop}(h:p):Hid p:=h
theorem bb(b:UInt8):b.toNat<256:=b.toNat_lt
theorem Zj{a b:Bool}(h:a=b):Ending.returned (.bool a)=.returned (.bool b):=by rw[h]
theorem Z0{k:IntKind}{a b:Int}(h:a=b):Ending.returned (.int k a)=.returned (.int k b):=by rw[h]
def among(c:Int)(t:List UInt8):Bool:=t.any fun b=>(b.toNat:Int)==c
theorem among_snoc(c:Int)(t:LB)(b:UInt8):among c (t++[b])=(among c t||(b.toNat:Int)==c):=by simp[among]
theorem Zlw(c:Int)(t:BA)(k:Nat)(h:k<t.size)(he:((t[k].toNat:Int)==c)=true):among c (tl t)=true:=by unfold among;rw[List.any_eq_true];exact⟨t[k],by rw[←Zep t k h];exact Xk _,he⟩
theorem Za2(c:Int)(t:BA)(w:World)(ht:t.size≤maxLen):Calls Tryz.prog 175 #[.int .i64 c,.string t] w fun e w'=>e=.returned (.bool (among c (tl t)))∧w=w':=by
 unfold maxLen at ht
 go_enter Tryz.func175,Tryz.ntmps175
 go_wp2
 go_loop [5] (fun i=>∃k:Nat,k≤t.size∧i=.int .i64 k∧among c ((tl t).take k)=false) (fun i=>t.size-(intOf i).toNat)
 case atStart=>exact⟨0,Xf _,rfl,rfl⟩
 case round=>
  obtain⟨k,hk,rfl,ha⟩:=hrel;have HA:Hid (among c ((tl t).take k)=false):=ha;clear ha
  by_cases hlt:k<t.size
  ·have hb:=bb t[k]
   go_wp2
   ·go_ret
    exact⟨Zj (Zlw c t k hlt (by assumption)).symm,rfl⟩
   ·go_round
    case rel=>exact⟨k+1,by omega,by go_num,by rw[Zv t k hlt,among_snoc,HA.out];assumption⟩
    case measure=>simp[intOf];omega
  ·go_wp2
   go_ret
   exact⟨Zj (by rw[←HA.out,ZY _ _ (by omega)]),rfl⟩
def alpha(c:Int):Bool:=decide ((97≤c∧c≤122)∨(65≤c∧c≤90))
def numeral(c:Int):Bool:=decide (48≤c∧c≤57)
theorem ZcX(c:Int)(w:World):Calls Tryz.prog 210 #[.int .i64 c] w fun e w'=>e=.returned (.bool (alpha c))∧w=w':=by
 go_enter Tryz.func210,Tryz.ntmps210
 go_wp2
 all_goals go_ret
 all_goals exact⟨Zj (by rw[Bool.eq_iff_iff];simp[alpha];omega),rfl⟩
theorem ZcY(c:Int)(w:World):Calls Tryz.prog 211 #[.int .i64 c] w fun e w'=>e=.returned (.bool (numeral c))∧w=w':=by
 go_enter Tryz.func211,Tryz.ntmps211
 go_wp2
 all_goals go_ret
 all_goals exact⟨Zj (by rw[Bool.eq_iff_iff];simp[numeral];omega),rfl⟩
abbrev Nx(w w':World):Prop:=Below w.heap.size w w'
theorem Nx.rfl{w:World}:Nx w w:=Below.refl _ _
theorem Nx.then{a b c:World}(h:Nx a b)(k:Nx b c):Nx a c:=h.trans (k.mono h.size)
def Kp(e:TypeId)(w w':World):Prop:=∀(k:Nat) (cs:Array Value) (t:TypeId) (fz:Nat×Nat),w.heap[k]?=some (Obj.cells cs t fz)→t≠e→w'.heap[k]?=some (Obj.cells cs t fz)
theorem Kp.rfl{e:TypeId}{w:World}:Kp e w w:=fun _ _ _ _ h _=>h
theorem Kp.then{e:TypeId}{a b c:World}(h:Kp e a b)(k:Kp e b c):Kp e a c:=fun i cs t fz hi hn=>k i cs t fz (h i cs t fz hi hn) hn
theorem Nx.kp{e:TypeId}{w w':World}(h:Nx w w'):Kp e w w':=fun k _ _ _ hk _=>(h.block k (Xa.1 hk).1).trans hk
def RowAt{α:Type}(e:TypeId)(f:α→Value)(w:World)(b off:Nat)(l:List α):Prop:=
 ∃(cs:Array Value) (fz:Nat×Nat),w.heap[b]?=some (Obj.cells cs e fz)∧∀i,(h:i<l.length)→cs[off+i]?=some (f l[i])
def SlAt{α:Type}(e:TypeId)(f:α→Value)(w:World)(v:Value)(l:List α):Prop:=
 ∃ao cap,v=.slice ao l.length cap∧l.length≤cap∧cap≤maxLen∧(ao=none→l=[]∧cap=0)∧∀a,ao=some a→∃b off,a=⟨b,off,none⟩∧RowAt e f w b off l
section
variable {α:Type} {e:TypeId} {f:α→Value} {w w':World} {v:Value} {l:List α} {b off:Nat}
theorem RowAt.cell(h:RowAt e f w b off l){i:Nat}(hi:i<l.length):w.cell? ⟨b,off+i,none⟩=some (f l[i]):=by
 obtain⟨cs,fz,hh,hc⟩:=h
 simpa [World.cell?,hh]using hc i hi
theorem RowAt.lt(h:RowAt e f w b off l):b<w.heap.size:=by obtain⟨cs,fz,hh,_⟩:=h;exact(Xa.1 hh).1
theorem RowAt.on(h:RowAt e f w b off l)(hb:Nx w w'):RowAt e f w' b off l:=by obtain⟨cs,fz,hh,hc⟩:=h;exact⟨cs,fz,(hb.block b (Xa.1 hh).1).trans hh,hc⟩
theorem RowAt.kp{e':TypeId}(h:RowAt e f w b off l)(hb:Kp e' w w')(he:e≠e'):RowAt e f w' b off l:=by obtain⟨cs,fz,hh,hc⟩:=h;exact⟨cs,fz,hb b cs e fz hh he,hc⟩
theorem RowAt.below{B:Nat}(h:RowAt e f w b off l)(hb:Below B w w')(hB:b<B):RowAt e f w' b off l:=by obtain⟨cs,fz,hh,hc⟩:=h;exact⟨cs,fz,(hb.block b hB).trans hh,hc⟩
theorem RowAt.take(h:RowAt e f w b off l)(k:Nat):RowAt e f w b off (l.take k):=by
 obtain⟨cs,fz,hh,hc⟩:=h
 refine⟨cs,fz,hh,fun i hi=>?_⟩
 rw[Xr]at hi
 rw[hc i (by omega),List.getElem_take]
theorem RowAt.drop(h:RowAt e f w b off l)(k:Nat):RowAt e f w b (off+k) (l.drop k):=by
 obtain⟨cs,fz,hh,hc⟩:=h
 refine⟨cs,fz,hh,fun i hi=>?_⟩
 rw[Xs]at hi
 rw[Nat.add_assoc,hc (k+i) (by omega),List.getElem_drop]
theorem SlAt.on(h:SlAt e f w v l)(hb:Nx w w'):SlAt e f w' v l:=by
 obtain⟨ao,cap,rfl,hlc,hcap,hnone,hsome⟩:=h
 refine⟨ao,cap,rfl,hlc,hcap,hnone,fun a ha=>?_⟩
 obtain⟨b,off,rfl,hr⟩:=hsome a ha;exact⟨b,off,rfl,hr.on hb⟩
theorem SlAt.kp{e':TypeId}(h:SlAt e f w v l)(hb:Kp e' w w')(he:e≠e'):SlAt e f w' v l:=by
 obtain⟨ao,cap,rfl,hlc,hcap,hnone,hsome⟩:=h
 refine⟨ao,cap,rfl,hlc,hcap,hnone,fun a ha=>?_⟩
 obtain⟨b,off,rfl,hr⟩:=hsome a ha;exact⟨b,off,rfl,hr.kp hb he⟩
theorem SlAt.nil(w:World):SlAt e f w (.slice none 0 0) []:=⟨none,0,rfl,by simp,Xf _,fun _=>⟨rfl,rfl⟩,nofun⟩
theorem SlAt.len(h:SlAt e f w v l):l.length≤maxLen:=by obtain⟨ao,cap,rfl,hlc,hcap,_⟩:=h;exact Nat.le_trans hlc hcap
theorem Zvh{cap:Nat}(hr:RowAt e f w b off l)(hlc:l.length≤cap)(hcap:cap≤maxLen):SlAt e f w (.slice (some ⟨b,off,none⟩) l.length cap) l:=
 ⟨_,_,rfl,hlc,hcap,nofun,fun _ ha=>⟨b,off,(Option.some.inj ha).symm,hr⟩⟩
theorem Zdw{cap:Nat}(hr:RowAt e f w b off l)(hlc:l.length≤cap)(hcap:cap≤maxLen)(k:Nat)(hk:k≤l.length):SlAt e f w (.slice (some ⟨b,off,none⟩) k cap) (l.take k):=by
 have hl:(l.take k).length=k:=by rw[Xr];omega
 have:=Zvh (cap:=cap) (hr.take k) (by omega) hcap
 rwa [hl]at this
theorem ZfE{cap:Nat}(hr:RowAt e f w b off l)(hlc:l.length≤cap)(hcap:cap≤maxLen)(k:Nat)(hk:k≤l.length):SlAt e f w (.slice (some ⟨b,off+k,none⟩) (l.length-k) (cap-k)) (l.drop k):=by
 have hl:(l.drop k).length=l.length-k:=Xs
 have:=Zvh (cap:=cap-k) (hr.drop k) (by omega) (by omega)
 rwa [hl]at this
theorem Zju(hr:RowAt e f w b off l)(k c:Nat)(hk:l.length≤k)(hc:c≤maxLen):SlAt e f w (.slice (some ⟨b,off,none⟩) (l.length-k) c) (l.drop k):=by
 have hl:l.drop k=[]:=Xi hk;obtain⟨cs,fz,hh,_⟩:=hr
 rw[hl,show l.length-k=0 by omega]
 exact⟨some ⟨b,off,none⟩,c,rfl,by simp,hc,nofun,fun _ ha=>⟨b,off,(Option.some.inj ha).symm,cs,fz,hh,fun i h=>by simp at h⟩⟩
theorem Zw{ao:Option Addr}{cap:Nat}{k:Nat}(hk:k<l.length)(hnone:ao=none→l=[]∧cap=0):∃a,ao=some a:=by
 cases ao with
 | none=>have:=(hnone rfl).1;subst this;simp at hk
 | some a=>exact⟨a,rfl⟩
theorem SlAt.open_{k:Nat}(h:SlAt e f w v l)(hk:k<l.length):∃b off cap,v=.slice (some ⟨b,off,none⟩) l.length cap∧l.length≤cap∧cap≤maxLen∧RowAt e f w b off l:=by obtain⟨ao,cap,rfl,hlc,hcap,hnone,hsome⟩:=h;obtain⟨a,rfl⟩:=Zw hk hnone;obtain⟨b,off,rfl,hr⟩:=hsome a rfl;exact⟨b,off,cap,rfl,hlc,hcap,hr⟩
end
abbrev IntsAt(w:World)(v:Value)(l:List Int):Prop:=SlAt 3 (Value.int .i64) w v l
abbrev ZbB(w:World)(v:Value)(l:List ByteArray):Prop:=SlAt 9 Value.string w v l
def cut(l:List Int)(t:List UInt8):List Int×List Int×Bool:=
 match l with
 | []=>([],[],false)
 | c::r=>if among c t then([],r,true)else(c::(cut r t).1,(cut r t).2)
def ZhY(l:List Int)(t:List UInt8)(k:Nat):Prop:=cut l t=(l.take k++(cut (l.drop k) t).1,(cut (l.drop k) t).2)
theorem Zqf(l:LI)(t:LB):ZhY l t 0:=by simp[ZhY]
theorem Zqg{l:LI}{t:LB}{k:Nat}(hk:k<l.length)(h:ZhY l t k)(ha:among l[k] t=false):ZhY l t (k+1):=by unfold ZhY at *;rw[h,Xg hk,Xe hk,Xq];simp only[cut,ha,Bool.false_eq_true,if_false,List.cons_append,List.nil_append]
theorem Zr7{l:LI}{t:LB}{k:Nat}(hk:k<l.length)(h:ZhY l t k)(ha:among l[k] t=true):cut l t=(l.take k,l.drop (k+1),true):=by
 unfold ZhY at h;rw[h,Xg hk]
 simp[cut,ha]
theorem Zr8{l:LI}{t:LB}{k:Nat}(hk:l.length≤k)(h:ZhY l t k):cut l t=(l,[],false):=by
 unfold ZhY at h;rw[h,Xi hk,Xc hk]
 simp[cut]
theorem Zdx(v:Value)(l:LI)(t:BA)(w:World)(ht:t.size≤maxLen)(hv:IntsAt w v l):Calls Tryz.prog 177 #[v,.string t] w fun e w'=>∃v1 v2,e=.returned (.tuple #[v1,v2,.bool (cut l (tl t)).2.2])∧IntsAt w' v1 (cut l (tl t)).1∧IntsAt w' v2 (cut l (tl t)).2.1∧Nx w w':=by
 have HV:Hid (IntsAt w v l):=hv;obtain⟨ao,cap,rfl,hlc,hcap,hnone,hsome⟩:=hv;have HCAP:Hid (cap≤maxLen):=hcap;unfold maxLen at hcap
 go_enter Tryz.func177,Tryz.ntmps177
 go_wp2
 go_loop [7] (fun i=>∃k:Nat,k≤l.length∧i=.int .i64 k∧ZhY l (tl t) k) (fun i=>l.length-(intOf i).toNat)
 case atStart=>exact⟨0,Xf _,rfl,Zqf _ _⟩
 case round=>
  obtain⟨k,hk,rfl,hto⟩:=hrel;have HT:Hid (ZhY l (tl t) k):=hto;clear hto
  by_cases hlt:k<l.length
  ·obtain⟨a,ha⟩:=Zw hlt hnone
   subst ha;obtain⟨b,off,rfl,hr⟩:=hsome a rfl;have hck:=hr.cell hlt;have HC:=Za hr;clear hnone hsome hr
   go_wp2_with (go_at_call 175;refine(Za2 _ _ _ ht).mono ?_;rintro e w' ⟨rfl,rfl⟩)
   ·have hr:=Zr7 hlt HT.out (by assumption)
    have HR:=Za hr;clear hr
    go_region
    all_goals go_wp2
    all_goals go_ret3
    all_goals rw[HR.out]
    ·have hcc:cap=k+1:=by assumption
     subst hcc
     exact⟨_,_,rfl,Zdw HC.out hlc HCAP.out k (by omega),Zju HC.out (k+1) 0 (by omega) (by simp),Nx.rfl.drew⟩
    ·exact⟨_,_,rfl,Zdw HC.out hlc HCAP.out k (by omega),ZfE HC.out hlc HCAP.out (k+1) (by omega),Nx.rfl.drew⟩
   ·go_round
    case rel=>exact⟨k+1,by omega,by go_num,Zqg hlt HT.out (by assumption)⟩
    case measure=>simp[intOf];omega
  ·go_wp2
   go_ret3
   rw[Zr8 (by omega) HT.out]
   exact⟨_,_,rfl,HV.out,SlAt.nil _,Nx.rfl⟩
theorem ZoX:(Tryz.prog.info? 5).map (fun i=>(i.zero,i.size,i.bytes))=some (some (.int .u8 0),1,1):=by kernel_rfl
theorem Zex:(Tryz.prog.info? 3).map (fun i=>(i.zero,i.size,i.bytes))=some (some (.int .i64 0),1,8):=by kernel_rfl
theorem ZhZ:(Tryz.prog.info? 9).map (fun i=>(i.zero,i.size,i.bytes))=some (some (.string ByteArray.empty),1,16):=by kernel_rfl
theorem Zvi:(Tryz.prog.info? 124).map (fun i=>(i.zero,i.size,i.bytes))=some (some (.slice none 0 0),1,24):=by kernel_rfl
theorem ZhO{w w':World}{base:Nat}{e:TypeId}{size:Nat}{v:Value}{n:Nat}{xs:List Value}(hown:w.ownsRow base e size v n xs)(hg:w.grownBy w' v.ownBlock):Kp e w w':=by
 intro k cs t fz hk ht
 refine(hg.block k (Xa.1 hk).1 fun hv=>?_).trans hk
 obtain⟨h1,⟨rfl,h3⟩|⟨g,cap,cur,rfl,h4,h5,h6⟩⟩:=hown
 ·cases hv
 ·simp only[Value.ownBlock,Option.some.injEq]at hv
  subst hv;rw[hk]at h5;simp only[Option.some.injEq,Obj.cells.injEq]at h5;exact ht h5.2.1
theorem Kp.alloc{e:TypeId}{a w:World}(h:Kp e a w)(o:Obj):Kp e a (w.alloc o):=h.then (Nx.kp ((Below.refl _ _).alloc (Xx _) o))
theorem Zdy{ops:Array Oper}{rest:List Oper}{o:Oper}{a:Act}{Q:Exit→Act→World→Prop}(w:World)(t e:TypeId)(z:Value)(bytes:Nat)
  (ht:Tryz.prog.underlying t=some (.slice e)) (hinfo:(Tryz.prog.info? e).map (fun i=>(i.zero,i.size,i.bytes))=some (some z,1,bytes)) (hzs:z.cells.size=1)
  (hgd:o.guard=none) (s x:Operand) (ho:o.op=.call { callee:=.builtin .append,args:=#[s,x],argTypes:=#[t,t] })
  (base:Nat) (v:Value) (n:Nat) (xs:List Value) (hs:a.eval s=v) (hown:w.ownsRow base e 1 v n xs)
  (ad:Addr) (m c:Nat) (news:List Value) (hx:a.eval x=.slice (some ad) m c) (hl:news.length=m) (hnews:∀j u,news[j]?=some u→w.cell? (ad.add j)=some u) (h1:∀u∈news,u.oneCell'=true)
  (hn:n+m≤1099511627776) (hby:bytes≤32) (hbase:base≤w.heap.size)
  (h:∀v' w',w'.ownsRow base e 1 v' (n+m) (xs++news)→Below base w w'→Kp e w w'→wpList Tryz.prog ops Q rest (a.put o.dst v') w'):wpList Tryz.prog ops Q (o::rest) a w:=by
 obtain⟨i,hi,hz0,hz1,hz2⟩:=info_parts hinfo
 refine wpList_append_own w hgd s x t ho base e i z 1 bytes ht hi hz0 hz1 hz2 hzs (by decide) v n xs hs hown ad m c news hx (by omega) hnews h1 (by unfold maxLen;omega) ?_ hbase ?_
 ·calc (n+m)*bytes≤1099511627776*32:=Xw hn hby
   _≤140737488355328:=by decide
 ·intro v' w' h2 h3 _
  exact h v' w' h2 ((Below.refl base w).grown h3 hbase (fun k hk=>(hown.lt k hk).1)) (ZhO hown h3)
theorem ZoY{ops:Array Oper}{o:Oper}{a:Act}{K:Act→World→Prop}{Q:Exit→Act→World→Prop}{E:Prop}(w:World)(t e:TypeId)(z:Value)(bytes:Nat)
  (ht:Tryz.prog.underlying t=some (.slice e)) (hinfo:(Tryz.prog.info? e).map (fun i=>(i.zero,i.size,i.bytes))=some (some z,1,bytes)) (hzs:z.cells.size=1)
  (hgd:o.guard=none) (s x:Operand) (ho:o.op=.call { callee:=.builtin .append,args:=#[s,x],argTypes:=#[t,t] })
  (base:Nat) (v:Value) (n:Nat) (xs:List Value) (hs:a.eval s=v) (hown:w.ownsRow base e 1 v n xs)
  (ad:Addr) (m c:Nat) (news:List Value) (hx:a.eval x=.slice (some ad) m c) (hl:news.length=m) (hnews:∀j u,news[j]?=some u→w.cell? (ad.add j)=some u) (h1:∀u∈news,u.oneCell'=true)
  (hn:n+m≤1099511627776) (hby:bytes≤32) (hbase:base≤w.heap.size)
  (h:∀v' w',w'.ownsRow base e 1 v' (n+m) (xs++news)→Below base w w'→Kp e w w'→K (a.put o.dst v') w'):if Region.wanted o (yielded ops a.tmps)=true then Oper.wp Tryz.prog o a w K Q else E:=by
 have hw:Region.wanted o (yielded ops a.tmps)=true:=by simp[Region.wanted,hgd]
 rw[if_pos hw];obtain⟨i,hi,hz0,hz1,hz2⟩:=info_parts hinfo
 refine wp_append_own w s x t ho base e i z 1 bytes ht hi hz0 hz1 hz2 hzs (by decide) v n xs hs hown ad m c news hx (by omega) hnews h1 (by unfold maxLen;omega) ?_ hbase ?_
 ·calc (n+m)*bytes≤1099511627776*32:=Xw hn hby
   _≤140737488355328:=by decide
 ·intro v' w' h2 h3 _
  exact h v' w' h2 ((Below.refl base w).grown h3 hbase (fun k hk=>(hown.lt k hk).1)) (ZhO hown h3)
theorem Zf4{w:World}{b off:Nat}{u:Value}(h:w.cell? ⟨b,off,none⟩=some u):∀(j:Nat) (x:Value),[u][j]?=some x→w.cell? ((⟨b,off,none⟩:Addr).add j)=some x:=by
 intro j x hx
 match j,hx with
 | 0,hx=>simp at hx;subst hx;rw[Addr.add_lit];exact h
abbrev ZfB(w:World)(base:Nat)(v:Value)(l:List UInt8):Prop:=w.ownsRow base 5 1 v l.length (Lib.byteCells l)
abbrev OwnI(w:World)(base:Nat)(v:Value)(l:List Int):Prop:=w.ownsRow base 3 1 v l.length (l.map (Value.int .i64))
theorem Zvj{ops:Array Oper}{rest:List Oper}{o:Oper}{a:Act}{Q:Exit→Act→World→Prop}(w:World)
  (hgd:o.guard=none) (s x:Operand) (ho:o.op=.call { callee:=.builtin .append,args:=#[s,x],argTypes:=#[160,160] })
  (base:Nat) (v:Value) (l:LB) (hs:a.eval s=v) (hown:ZfB w base v l)
  (ab ao c:Nat) (y:Int) (hx:a.eval x=.slice (some ⟨ab,ao,none⟩) 1 c) (hcell:w.cell? ⟨ab,ao,none⟩=some (.int .u8 y)) (hy0:0≤y) (hy1:y≤255)
  (hn:l.length<1099511627776) (hbase:base≤w.heap.size)
  (h:∀v' w',ZfB w' base v' (l++[UInt8.ofNat y.toNat])→Below base w w'→Kp 5 w w'→wpList Tryz.prog ops Q rest (a.put o.dst v') w'):wpList Tryz.prog ops Q (o::rest) a w:=by
 refine Zdy w _ _ (.int .u8 0) 1 Tryz.underlying160 ZoX rfl hgd s x ho base v l.length _ hs hown ⟨ab,ao,none⟩ 1 c [.int .u8 y] hx rfl (Zf4 hcell) (by simp[Value.oneCell']) (by omega) (by decide) hbase ?_
 intro v' w' h2 h3 h4
 refine h v' w' ?_ h3 h4
 have e:((UInt8.ofNat y.toNat).toNat:Int)=y:=by rw[UInt8.toNat_ofNat_of_lt' (by show y.toNat<256;omega)];omega
 have e2:Lib.byteCells [UInt8.ofNat y.toNat]=[.int .u8 y]:=by simp only[Lib.byteCells,List.map_cons,List.map_nil,e]
 unfold ZfB;rw[Xd,Lib.byteCells_append,e2];exact h2
theorem ZxI{ops:Array Oper}{rest:List Oper}{o:Oper}{a:Act}{Q:Exit→Act→World→Prop}(w:World)
  (hgd:o.guard=none) (s x:Operand) (ho:o.op=.call { callee:=.builtin .append,args:=#[s,x],argTypes:=#[124,124] })
  (base:Nat) (v:Value) (l:LI) (hs:a.eval s=v) (hown:OwnI w base v l)
  (ab ao c:Nat) (y:Int) (hx:a.eval x=.slice (some ⟨ab,ao,none⟩) 1 c) (hcell:w.cell? ⟨ab,ao,none⟩=some (.int .i64 y))
  (hn:l.length<1099511627776) (hbase:base≤w.heap.size)
  (h:∀v' w',OwnI w' base v' (l++[y])→Below base w w'→Kp 3 w w'→wpList Tryz.prog ops Q rest (a.put o.dst v') w'):wpList Tryz.prog ops Q (o::rest) a w:=by
 refine Zdy w _ _ (.int .i64 0) 8 Tryz.underlying124 Zex rfl hgd s x ho base v l.length _ hs hown ⟨ab,ao,none⟩ 1 c [.int .i64 y] hx rfl (Zf4 hcell) (by simp[Value.oneCell']) (by omega) (by decide) hbase ?_
 intro v' w' h2 h3 h4
 refine h v' w' ?_ h3 h4
 unfold OwnI
 simpa using h2
theorem Zbg{ops:Array Oper}{rest:List Oper}{o:Oper}{a:Act}{Q:Exit→Act→World→Prop}(w:World)(y:Int)
  (hgd:o.guard=none) (s x:Operand) (ho:o.op=.call { callee:=.builtin .append,args:=#[s,x],argTypes:=#[160,160] })
  (base:Nat) (v:Value) (l:LB) (hs:a.eval s=v) (hown:ZfB w base v l) (hx:a.eval x=.slice (some ⟨w.heap.size,0,none⟩) 1 1) (hy0:0≤y) (hy1:y≤255)
  (hn:l.length<1099511627776) (hbase:base≤w.heap.size)
  (h:∀v' w',ZfB w' base v' (l++[UInt8.ofNat y.toNat])→Below base w w'→Kp 5 w w'→wpList Tryz.prog ops Q rest (a.put o.dst v') w'):
  wpList Tryz.prog ops Q (o::rest) a (w.alloc (.cells #[.int .u8 y] 5)):=
 Zvj _ hgd s x ho base v l hs (World.ownsRow.alloc hown _) w.heap.size 0 1 y hx (by simp) hy0 hy1 hn (by simp;omega)
  fun v' w' h1 h2 h3=>h v' w' h1 (((Below.refl base w).alloc hbase _).trans h2) ((Kp.rfl.alloc _).then h3)
theorem ZbW{ops:Array Oper}{rest:List Oper}{o:Oper}{a:Act}{Q:Exit→Act→World→Prop}(w:World)(y:Int)
  (hgd:o.guard=none) (s x:Operand) (ho:o.op=.call { callee:=.builtin .append,args:=#[s,x],argTypes:=#[124,124] })
  (base:Nat) (v:Value) (l:LI) (hs:a.eval s=v) (hown:OwnI w base v l) (hx:a.eval x=.slice (some ⟨w.heap.size,0,none⟩) 1 1)
  (hn:l.length<1099511627776) (hbase:base≤w.heap.size)
  (h:∀v' w',OwnI w' base v' (l++[y])→Below base w w'→Kp 3 w w'→wpList Tryz.prog ops Q rest (a.put o.dst v') w'):
  wpList Tryz.prog ops Q (o::rest) a (w.alloc (.cells #[.int .i64 y] 3)):=
 ZxI _ hgd s x ho base v l hs (World.ownsRow.alloc hown _) w.heap.size 0 1 y hx (by simp) hn (by simp;omega)
  fun v' w' h1 h2 h3=>h v' w' h1 (((Below.refl base w).alloc hbase _).trans h2) ((Kp.rfl.alloc _).then h3)
theorem Zh0{w:World}{b off:Nat}{x y z:Value}(h0:w.cell? ⟨b,off,none⟩=some x)(h1:w.cell? ⟨b,off+1,none⟩=some y)(h2:w.cell? ⟨b,off+2,none⟩=some z):∀(j:Nat) (u:Value),[x,y,z][j]?=some u→w.cell? ((⟨b,off,none⟩:Addr).add j)=some u:=by
 intro j u hu;rw[Addr.add_lit]
 match j,hu with
 | 0,hu=>simp at hu;subst hu;exact h0
 | 1,hu=>simp at hu;subst hu;exact h1
 | 2,hu=>simp at hu;subst hu;exact h2
theorem Zgv{ops:Array Oper}{o:Oper}{a:Act}{K:Act→World→Prop}{Q:Exit→Act→World→Prop}{E:Prop}(w:World)(x0 x1 x2:UInt8)
  (hgd:o.guard=none) (s x:Operand) (ho:o.op=.call { callee:=.builtin .append,args:=#[s,x],argTypes:=#[160,160] })
  (base:Nat) (v:Value) (l:LB) (hs:a.eval s=v) (hown:ZfB w base v l)
  (ab ao c:Nat) (hx:a.eval x=.slice (some ⟨ab,ao,none⟩) 3 c) (h0:w.cell? ⟨ab,ao,none⟩=some (.int .u8 x0.toNat)) (h1:w.cell? ⟨ab,ao+1,none⟩=some (.int .u8 x1.toNat)) (h2:w.cell? ⟨ab,ao+2,none⟩=some (.int .u8 x2.toNat))
  (hn:l.length<1000000000000) (hbase:base≤w.heap.size)
  (h:∀v' w',ZfB w' base v' (l++[x0,x1,x2])→Below base w w'→Kp 5 w w'→K (a.put o.dst v') w'):if Region.wanted o (yielded ops a.tmps)=true then Oper.wp Tryz.prog o a w K Q else E:=by
 refine ZoY w _ _ (.int .u8 0) 1 Tryz.underlying160 ZoX rfl hgd s x ho base v l.length _ hs hown ⟨ab,ao,none⟩ 3 c [.int .u8 x0.toNat,.int .u8 x1.toNat,.int .u8 x2.toNat] hx rfl (Zh0 h0 h1 h2) (by simp[Value.oneCell']) (by omega) (by decide) hbase ?_
 intro v' w' q1 q2 q3
 refine h v' w' ?_ q2 q3
 unfold ZfB;rw[Xd,Lib.byteCells_append];exact q1
theorem ZQ{α:Type}{e:TypeId}{f:α→Value}{w:World}{base:Nat}{v:Value}{l:List α}(h:w.ownsRow base e 1 v l.length (l.map f)):SlAt e f w v l:=by
 obtain⟨h1,⟨rfl,h3⟩|⟨g,cap,cur,rfl,h4,h5,h6,h7,h8,h9⟩⟩:=h
 ·have:l=[]:=Xm h3
  subst this;exact SlAt.nil w
 ·refine Zvh ⟨cur,_,h5,fun i hi=>?_⟩ h6 h7
  have:=congrArg (fun q:List Value=>q[i]?) h9
  simpa [List.getElem?_take,hi,Xh hi]using this
theorem OwnI.ints{w:World}{base:Nat}{v:Value}{l:LI}(h:OwnI w base v l):IntsAt w v l:=ZQ h
theorem Zdk{w:World}{base:Nat}{v:Value}{l:LB}(h:ZfB w base v l):(convert 160 9 v).run Tryz.prog w=.ok (.string ⟨l.toArray⟩) w:=by
 have h0:=h;obtain⟨h1,⟨rfl,h3⟩|⟨g,cap,cur,rfl,h4,h5,h6,h7,h8,h9⟩⟩:=h
 ·have:l=[]:=Xm h3
  subst this;exact run_convert_bytes_nil w _ _ Tryz.underlying160 Tryz.underlying5 0 0 _ Tryz.underlying9
 ·refine run_convert_bytes_back w _ _ _ ⟨g,0,none⟩ cap l Tryz.underlying160 Tryz.underlying5 Tryz.underlying9 fun j hj=>?_
  exact h0.cells rfl j _ (by simp[Lib.byteCells,Xh hj])
theorem Ze{n:Nat}(h:n≤1000000):n≤maxLen:=by unfold maxLen;omega
def utf(c:Int):List Int:=
 if c<128 then [c]else if c<2048 then [192+c/64,128+c%64]
 else if c<65536 then [224+c/4096,128+c/64%64,128+c%64]else [240+c/262144,128+c/4096%64,128+c/64%64,128+c%64]
def Pt(c:Int):Prop:=0≤c∧c≤1114111
theorem Ze4{c x:Int}(hc:Pt c)(hx:x∈utf c):0≤x∧x≤255:=by
 unfold Pt at hc;unfold utf at hx
 split at hx
 ·simp at hx;omega
 ·split at hx
  ·simp at hx;omega
  ·split at hx<;>(simp at hx;omega)
theorem ZkG(c:Int):(utf c).length≤4:=by unfold utf;repeat (first|split|simp)
theorem ZfF(c:Int):1≤(utf c).length:=by unfold utf;repeat (first|split|simp)
theorem Zlx{α:Type}{e:TypeId}{f:α→Value}(w:World)(l:List α)(cs:Array Value)(hl:l.length≤1000)(hc:cs.toList=l.map f):SlAt e f (w.alloc (.cells cs e)) (.slice (some ⟨w.heap.size,0,none⟩) l.length l.length) l:=by
 refine Zvh ⟨cs,_,heap_alloc_new w _,fun i hi=>?_⟩ (Xx _) (by unfold maxLen;omega)
 rw[Xo,←Array.getElem?_toList,hc]
 simp[Xh hi]
theorem Nx.alloc{a w:World}(h:Nx a w)(o:Obj):Nx a (w.alloc o):=Below.alloc h h.size o
theorem Nx.drew{a w:World}(h:Nx a w):Nx a w.drew:=Below.drew h
theorem Zh1(c:Int)(w:World)(hc:Pt c):Calls Tryz.prog 174 #[.int .i64 c] w fun e w'=>∃v,e=.returned v∧IntsAt w' v (utf c)∧Nx w w':=by
 obtain⟨h0,h1⟩:=hc
 by_cases c1:c<128
 ·have E:=Za (show utf c=[c]by simp[utf,c1])
  go_enter Tryz.func174,Tryz.ntmps174
  go_wp2;go_ret;rw[E.out]
  exact⟨_,rfl,Zlx w [c] _ (by simp) rfl,Nx.rfl.alloc _⟩
 by_cases c2:c<2048
 ·have E:=Za (show utf c=[192+c/64,128+c%64]by simp[utf,c1,c2])
  go_enter Tryz.func174,Tryz.ntmps174
  go_wp2;go_ret;rw[E.out]
  exact⟨_,rfl,Zlx w [192+c/64,128+c%64] _ (by simp) rfl,Nx.rfl.alloc _⟩
 by_cases c3:c<65536
 ·have E:=Za (show utf c=[224+c/4096,128+c/64%64,128+c%64]by simp[utf,c1,c2,c3])
  go_enter Tryz.func174,Tryz.ntmps174
  go_wp2;go_ret;rw[E.out]
  exact⟨_,rfl,Zlx w [224+c/4096,128+c/64%64,128+c%64] _ (by simp) rfl,Nx.rfl.alloc _⟩
 ·have E:=Za (show utf c=[240+c/262144,128+c/4096%64,128+c/64%64,128+c%64]by simp[utf,c1,c2,c3])
  go_enter Tryz.func174,Tryz.ntmps174
  go_wp2;go_ret;rw[E.out]
  exact⟨_,rfl,Zlx w [240+c/262144,128+c/4096%64,128+c/64%64,128+c%64] _ (by simp) rfl,Nx.rfl.alloc _⟩
def flat(l:List Int):List Int:=l.filter fun c=>!among c [9,10,13]
theorem Zr9(l:LI)(c:Int):flat (l++[c])=flat l++(if among c [9,10,13]then []else [c]):=by cases h:among c [9,10,13]<;>simp[flat,List.filter_append,h]
theorem ZoZ(l:LI):(flat l).length≤l.length:=List.length_filter_le _ _
theorem Z3(l:LI)(k:Nat)(h:k<l.length):l.take (k+1)=l.take k++[l[k]]:=Xe h
theorem Zo0(v:Value)(l:LI)(w:World)(hv:IntsAt w v l)(hn:l.length≤1000000):Calls Tryz.prog 131 #[v] w fun e w'=>∃v',e=.returned v'∧IntsAt w' v' (flat l)∧Nx w w':=by
 obtain⟨ao,cap,rfl,hlc,hcap,hnone,hsome⟩:=hv;unfold maxLen at hcap
 go_enter Tryz.func131,Tryz.ntmps131
 go_wp2
 go_loopw [3,4] (fun o i wr=>∃k:Nat,k≤l.length∧i=.int .i64 k∧OwnI wr w.heap.size o (flat (l.take k))∧Nx w wr) (fun _ i _=>l.length-(intOf i).toNat)
 case atStart=>exact⟨0,Xf _,rfl,World.ownsRow_nil _ _ _ _,Nx.rfl⟩
 case round=>
  obtain⟨k,hk,rfl,hown,hnx⟩:=hrel
  by_cases hlt:k<l.length
  ·obtain⟨a,ha⟩:=Zw hlt hnone
   subst ha;obtain⟨b,off,rfl,hr⟩:=hsome a rfl;have hck:=(hr.on hnx).cell hlt
   have hsz:(flat (l.take k)).length<1099511627776:=by have:=ZoZ (l.take k);have:=Xj k l;omega
   have hz:=hnx.size;have HTK:=Za ((congrArg flat (Z3 l k hlt)).trans (Zr9 (l.take k) l[k]));have HO:=Za hown;have HN:=Za hnx;clear hnone hsome hr hown hnx
   go_wp2_with (first|(go_at_call 175;refine(Za2 _ _ _ (Ze (by decide))).mono ?_;rintro e w' ⟨rfl,rfl⟩)|(at_builtin;refine ZbW wr l[k] rfl _ _ rfl w.heap.size _ _ rfl HO.out rfl hsz hz ?_;intro v' w1 ho1 hb1 _;have HO1:=Za ho1;clear ho1))
   ·go_roundw
    case rel=>exact⟨k+1,by omega,by go_num,by rw[HTK.out,if_neg (by simpa using ‹(!among _ _)=true›)];exact HO1.out,HN.out.trans hb1⟩
    case measure=>simp[intOf];omega
   ·go_roundw
    case rel=>exact⟨k+1,by omega,by go_num,by rw[HTK.out,if_pos (by simpa using ‹(!among _ _)=false›),List.append_nil];exact HO.out,HN.out⟩
    case measure=>simp[intOf];omega
  ·go_wp2
   go_ret
   rw[Xc (by omega)]at hown
   exact⟨_,rfl,OwnI.ints hown,hnx⟩
theorem ZbP{w w':World}{base:Nat}{e:TypeId}{size:Nat}{v:Value}{n:Nat}{xs:List Value}(h:w.ownsRow base e size v n xs)(hb:Nx w w'):w'.ownsRow base e size v n xs:=by
 obtain⟨h1,h2⟩:=h
 refine⟨h1,?_⟩
 rcases h2 with h2|⟨g,cap,cur,hv,hg,hh,r⟩
 ·exact Or.inl h2
 ·exact Or.inr ⟨g,cap,cur,hv,hg,(hb.block g (Xa.1 hh).1).trans hh,r⟩
def toB(n:Int):UInt8:=UInt8.ofNat n.toNat
def Zb(l:List Int):List UInt8:=l.flatMap fun c=>(utf c).map toB
theorem bytesOf_snoc(l:LI)(c:Int):Zb (l++[c])=Zb l++(utf c).map toB:=by simp[Zb]
theorem Zbh(l:LI):(Zb l).length≤4*l.length:=by
 induction l with
 | nil=>simp[Zb]
 | cons c l ih=>
  have h:=ZkG c;simp only[Zb,List.flatMap_cons,Xd,Xu,Xl]at *
  omega
theorem ZbC(v:Value)(l:LI)(w:World)(hv:IntsAt w v l)(hn:l.length≤1000000)(hp:∀c∈l,Pt c):Calls Tryz.prog 152 #[v] w fun e w'=>∃r:BA,e=.returned (.string r)∧tl r=Zb l∧Nx w w':=by
 obtain⟨ao,cap,rfl,hlc,hcap,hnone,hsome⟩:=hv;unfold maxLen at hcap
 go_enter Tryz.func152,Tryz.ntmps152
 go_wp2
 go_loopw [3,4] (fun o i wr=>∃k:Nat,k≤l.length∧i=.int .i64 k∧ZfB wr w.heap.size o (Zb (l.take k))∧Nx w wr) (fun _ i _=>l.length-(intOf i).toNat)
 case atStart=>exact⟨0,Xf _,rfl,World.ownsRow_nil _ _ _ _,Nx.rfl⟩
 case round=>
  obtain⟨k,hk,rfl,hown,hnx⟩:=hrel
  by_cases hlt:k<l.length
  ·obtain⟨a,ha⟩:=Zw hlt hnone
   subst ha;obtain⟨b,off,rfl,hr⟩:=hsome a rfl;have hck:=(hr.on hnx).cell hlt;have HPT:=Za (hp l[k] (Xk _));have HTK:=Za ((congrArg Zb (Z3 l k hlt)).trans (bytesOf_snoc (l.take k) l[k]))
   have hsz:(Zb (l.take k)).length≤4000000:=by have:=Zbh (l.take k);have:=Xj k l;omega
   have HUL:=Za (ZkG l[k]);have HO:=Za hown;have HN:=Za hnx;clear hnone hsome hr hown hnx hp;go_wp2_with fail
   refine(Zh1 _ _ HPT.out).mono ?_
   rintro e w1 ⟨u,rfl,hu,hn1⟩;have HO1:=Za (ZbP HO.out hn1);have HN1:=Za (HN.out.then hn1);have HU:=Za hu;clear hu hn1 HO HN;obtain⟨ub,uoff,ucap,rfl,hulc,hucap,hur⟩:=HU.out.open_ (k:=0) (ZfF _);unfold maxLen at hucap;have HUC:=Za hur;clear hur;go_wp2_with fail
   go_loopw [3,6] (fun o j wr2=>∃m:Nat,m≤(utf l[k]).length∧j=.int .i64 m∧ZfB wr2 w.heap.size o (Zb (l.take k)++((utf l[k]).take m).map toB)∧Nx w wr2∧RowAt 3 (Value.int .i64) wr2 ub uoff (utf l[k])) (fun _ j _=>(utf l[k]).length-(intOf j).toNat)
   case atStart=>exact⟨0,Xf _,rfl,by simpa using HO1.out,HN1.out,HUC.out⟩
   case round=>
    clear HO1 HN1 HUC HU;obtain⟨m,hm,rfl,hown,hnx,hur⟩:=hrel
    by_cases hml:m<(utf l[k]).length
    ·have hcm:=hur.cell hml
     have hby:=Ze4 HPT.out (Xk hml);have hz:=hnx.size
     have hsz2:(Zb (l.take k)++((utf l[k]).take m).map toB).length<1099511627776:=by have:=Xj m (utf l[k]);have:=HUL.out;simp only[Xd,Xu];omega
     have HTM:=Za (Z3 (utf l[k]) m hml);have HO:=Za hown;have HN:=Za hnx;have HR:=Za hur;clear hown hnx hur;obtain⟨hby0,hby1⟩:=hby
     go_wp2_with (at_builtin;go_must (refine Zbg wr (utf l[k])[m] rfl _ _ rfl w.heap.size _ _ rfl HO.out rfl hby0 hby1 hsz2 hz ?_;intro v' w1 ho1 hb1 hk1;have HO1:=Za ho1;clear ho1))
     go_roundw
     case rel=>exact⟨m+1,by omega,by go_num,by rw[HTM.out,List.map_append,←Xq];exact HO1.out,HN.out.trans hb1,HR.out.kp hk1 (by decide)⟩
     case measure=>simp[intOf];omega
    ·go_wp2
     go_roundw
     case rel=>exact⟨k+1,by omega,by go_num,by rw[HTK.out];rw[Xc (l:=utf l[k]) (by omega)]at hown;exact hown,hnx⟩
     case measure=>simp[intOf];omega
  ·rw[Xc (by omega)]at hown
   have hcv:=Zdk hown;have HO:=Za hown;clear hown;go_wp2;go_ret;exact⟨_,rfl,tl_mk _,hnx⟩
def digit(c:Int):Int:=if 48≤c∧c≤57 then c-48 else if 97≤c∧c≤102 then c-87 else if 65≤c∧c≤70 then c-55 else -1
abbrev Zvb:ByteArray:=⟨#[48,49,50,51,52,53,54,55,56,57,97,98,99,100,101,102]⟩
theorem Zo1:∀q:Fin 16,((Zvb[q.val]'q.isLt).toNat:Int)=if q.val<10 then 48+(q.val:Int)else 87+(q.val:Int):=by decide
theorem ZxJ(k:Nat)(h:k<16)(h9:k<10):((Zvb[k]'h).toNat:Int)=48+(k:Int):=by have:=Zo1 ⟨k,h⟩;simpa [h9]using this
theorem ZxK(k:Nat)(h:k<16)(h9:¬k<10):((Zvb[k]'h).toNat:Int)=87+(k:Int):=by have:=Zo1 ⟨k,h⟩;simpa [h9]using this
theorem ZdH(c:Int):-1≤digit c∧digit c≤15:=by unfold digit;split;omega;split;omega;split<;>omega
theorem Zzw{c:Int}{k:Nat}(hk:k<10)(h:¬c=48+(k:Int)):¬digit c=k:=by unfold digit;split;omega;split;omega;split<;>omega
theorem Zzx{c:Int}{k:Nat}(hk:¬k<10)(h:¬c=87+(k:Int))(h2:¬c=55+(k:Int)):¬digit c=k:=by unfold digit;split;omega;split;omega;split<;>omega
theorem Zsa{c:Int}{k:Nat}(h:∀j:Int,0≤j→j<k→¬(digit c=j))(hk:¬digit c=k):∀j:Int,0≤j→j<((k+1:Nat):Int)→¬(digit c=j):=by
 intro j h0 h1 hj
 by_cases e:j=k
 ·exact hk (by omega)
 ·exact h j h0 (by omega) hj
theorem ZC(c:Int)(w:World):Calls Tryz.prog 286 #[.int .i64 c] w fun e w'=>e=.returned (.int .i64 (digit c))∧w=w':=by
 go_enter Tryz.func286,Tryz.ntmps286
 go_wp2
 go_loop [4] (fun i=>∃k:Nat,k≤16∧i=.int .i64 k∧∀j:Int,0≤j→j<k→¬(digit c=j)) (fun i=>16-(intOf i).toNat)
 case atStart=>exact⟨0,by omega,rfl,fun j h0 h1=>by omega⟩
 case round=>
  obtain⟨k,hk,rfl,hno⟩:=hrel;have HNO:=Za hno;clear hno
  by_cases hlt:k<16
  ·have hlt':k<Zvb.size:=hlt
   by_cases h9:k<10
   ·have hv:=ZxJ k hlt h9
    go_wp2
    ·go_ret
     exact⟨Z0 (by unfold digit;rw[if_pos (by omega)];omega),rfl⟩
    ·go_round
     case rel=>exact⟨k+1,by omega,by go_num,Zsa HNO.out (Zzw h9 (by first|assumption|(have h:=‹_=false›;simpa using h)))⟩
     case measure=>simp[intOf];omega
   ·have hv:=ZxK k hlt h9
    go_wp2
    ·go_ret
     exact⟨Z0 (by unfold digit;rw[if_neg (by omega),if_pos (by omega)];omega),rfl⟩
    ·go_ret
     have h:=‹_∨_›;simp only[beq_iff_eq]at h
     exact⟨Z0 (by unfold digit;rw[if_neg (by omega),if_neg (by omega),if_pos (by omega)];omega),rfl⟩
    ·have h:=‹_=false∧_=false›
     simp only[beq_eq_false_iff_ne,ne_eq]at h
     go_round
     case rel=>exact⟨k+1,by omega,by go_num,Zsa HNO.out (Zzx (by omega) h.1 (by omega))⟩
     case measure=>simp[intOf];omega
  ·go_wp2
   go_ret
   exact⟨Z0 (by
    have h:=HNO.out;have hr:=ZdH c
    by_cases e:digit c=-1
    ·exact e.symm
    ·exact absurd rfl (h (digit c) (by omega) (by omega))),rfl⟩
def ZkH(l:List Int):List Int:=l.dropWhile fun c=>decide (c≤32)
def Zet(l:List Int):List Int:=(l.reverse.dropWhile fun c=>decide (c≤32)).reverse
def trimmed(l:List Int):List Int:=Zet (ZkH l)
theorem Zjv(c:Int)(l:LI):ZkH (c::l)=if c≤32 then ZkH l else c::l:=by by_cases h:c≤32<;>simp[ZkH,h]
theorem Ze5(c:Int)(l:LI):Zet (l++[c])=if c≤32 then Zet l else l++[c]:=by by_cases h:c≤32<;>simp[Zet,h]
def ZaT:Value→Nat | .slice _ n _=>n|_=>0
theorem ZxL{α:Type}{e:TypeId}{f:α→Value}{w:World}{b off cap:Nat}{c:α}{r:List α}(hr:RowAt e f w b off (c::r))(hlc:(c::r).length≤cap)(hcap:cap≤maxLen):SlAt e f w (.slice (some ⟨b,off+1,none⟩) r.length (cap-1)) r:=by
 have h:=ZfE hr hlc hcap 1 (by simp)
 simpa using h
theorem Zvk{α:Type}{e:TypeId}{f:α→Value}{w:World}{b off:Nat}{c:α}{r:List α}(hr:RowAt e f w b off (c::r))(hlc:(c::r).length≤1):SlAt e f w (.slice (some ⟨b,off,none⟩) r.length 0) r:=by
 have h:=Zju hr 1 0 hlc (Xf _)
 simpa using h
theorem Zsb{α:Type}{e:TypeId}{f:α→Value}{w:World}{b off cap:Nat}{c:α}{r:List α}(hr:RowAt e f w b off (r++[c]))(hlc:(r++[c]).length≤cap)(hcap:cap≤maxLen):SlAt e f w (.slice (some ⟨b,off,none⟩) r.length cap) r:=by
 have h:=Zdw hr hlc hcap r.length (by simp)
 simpa using h
theorem Zjw{α:Type}{e:TypeId}{f:α→Value}{w:World}{b off cap:Nat}{c:α}{r:List α}(hr:RowAt e f w b off (c::r))(hlc:(c::r).length≤cap)(hcap:cap≤maxLen):SlAt e f w (.slice (if cap=1 then some ⟨b,off,none⟩else some ⟨b,off+1,none⟩) r.length (cap-1)) r:=by
 split
 ·subst cap;exact Zvk hr hlc
 ·exact ZxL hr hlc hcap
theorem Zh2(v:Value)(l:LI)(w:World)(hv:IntsAt w v l):Calls Tryz.prog 198 #[v] w fun e w'=>∃v',e=.returned v'∧IntsAt w v' (trimmed l)∧w=w':=by
 go_enter Tryz.func198,Tryz.ntmps198
 go_wp2
 go_loop [0] (fun x=>∃m,IntsAt w x m∧trimmed l=trimmed m) (fun x=>ZaT x)
 case atStart=>exact⟨l,hv,rfl⟩
 case round=>
  obtain⟨m,hm,hE⟩:=hrel;have HE:=Za hE;have HM:=Za hm;clear hE
  match m,hm,HE,HM with
  | [],hm,HE,HM=>
   obtain⟨ao,cap,rfl,hlc,hcap,_,_⟩:=hm;go_wp2
   go_loop [0] (fun x=>∃m2,IntsAt w x m2∧trimmed l=Zet m2) (fun x=>ZaT x)
   case atStart=>exact⟨_,HM.out,HE.out.trans (congrArg Zet (rfl))⟩
   case round=>
    obtain⟨m2,hm2,hE2⟩:=hrel;clear HE HM;have HE:=Za hE2;have HM:=Za hm2;clear hE2;rcases Xp m2 with rfl|⟨r2,c2,rfl⟩
    ·obtain⟨ao2,cap2,rfl,hlc2,hcap2,_,_⟩:=hm2
     go_wp2;go_ret
     exact⟨_,rfl,by rw[HE.out];exact HM.out,rfl⟩
    ·obtain⟨b2,off2,cap2,rfl,hlc2,hcap2,hr2⟩:=hm2.open_ (k:=0) (by simp)
     have hc2:=hr2.cell (i:=r2.length) (by simp)
     simp only[Xb,Xn]at hc2;have HR2:=Za hr2;clear hr2 hm2;simp only[Xb]at HE HR2 hlc2;simp only[Xb,Xd,Xl,Xv,Xo]
     have hlc3:r2.length+1≤cap2:=by simpa using hlc2
     have HCAP2:=Za hcap2;unfold maxLen at hcap2
     by_cases h322:c2≤32
     ·have HT2:=Za (show Zet (r2++[c2])=Zet r2 by rw[Ze5,if_pos h322])
      go_wp2
      go_round
      case rel=>exact⟨r2,Zsb HR2.out (by simpa using hlc3) HCAP2.out,HE.out.trans HT2.out⟩
      case measure=>simp[ZaT]
     ·have HT2:=Za (show Zet (r2++[c2])=r2++[c2]by rw[Ze5,if_neg h322])
      go_wp2;go_ret
      exact⟨_,rfl,by rw[HE.out,HT2.out];simpa using HM.out,rfl⟩
  | c::r,hm,HE,HM=>
   obtain⟨b,off,cap,rfl,hlc,hcap,hr⟩:=hm.open_ (k:=0) (by simp)
   have hc0:=hr.cell (i:=0) (by simp)
   simp only[Nat.add_zero,List.getElem_cons_zero]at hc0;have HR:=Za hr;have HCAP:=Za hcap;unfold maxLen at hcap
   have hlc1:r.length+1≤cap:=by simpa using hlc
   clear hr hm
   by_cases h32:c≤32
   ·have HT:=Za (show trimmed (c::r)=trimmed r by unfold trimmed;rw[Zjv,if_pos h32])
    go_wp2
    go_round
    case rel=>exact⟨r,Zjw HR.out (by simpa using hlc1) HCAP.out,HE.out.trans HT.out⟩
    case measure=>simp[ZaT]
   have HT:=Za (show ZkH (c::r)=c::r by rw[Zjv,if_neg h32])
   go_wp2
   go_loop [0] (fun x=>∃m2,IntsAt w x m2∧trimmed l=Zet m2) (fun x=>ZaT x)
   case atStart=>exact⟨_,HM.out,HE.out.trans (congrArg Zet (HT.out))⟩
   case round=>
    obtain⟨m2,hm2,hE2⟩:=hrel;clear HE HM;have HE:=Za hE2;have HM:=Za hm2;clear hE2;rcases Xp m2 with rfl|⟨r2,c2,rfl⟩
    ·obtain⟨ao2,cap2,rfl,hlc2,hcap2,_,_⟩:=hm2
     go_wp2;go_ret
     exact⟨_,rfl,by rw[HE.out];exact HM.out,rfl⟩
    ·obtain⟨b2,off2,cap2,rfl,hlc2,hcap2,hr2⟩:=hm2.open_ (k:=0) (by simp)
     have hc2:=hr2.cell (i:=r2.length) (by simp)
     simp only[Xb,Xn]at hc2;have HR2:=Za hr2;clear hr2 hm2;simp only[Xb]at HE HR2 hlc2;simp only[Xb,Xd,Xl,Xv,Xo]
     have hlc3:r2.length+1≤cap2:=by simpa using hlc2
     have HCAP2:=Za hcap2;unfold maxLen at hcap2
     by_cases h322:c2≤32
     ·have HT2:=Za (show Zet (r2++[c2])=Zet r2 by rw[Ze5,if_pos h322])
      go_wp2
      go_round
      case rel=>exact⟨r2,Zsb HR2.out (by simpa using hlc3) HCAP2.out,HE.out.trans HT2.out⟩
      case measure=>simp[ZaT]
     ·have HT2:=Za (show Zet (r2++[c2])=r2++[c2]by rw[Ze5,if_neg h322])
      go_wp2;go_ret
      exact⟨_,rfl,by rw[HE.out,HT2.out];simpa using HM.out,rfl⟩
end Go.Proofs.YtchkhibgbnhjpabGreatDoor
