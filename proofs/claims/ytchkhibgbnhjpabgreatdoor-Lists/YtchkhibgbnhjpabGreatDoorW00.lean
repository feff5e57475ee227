import Derived.Test.YtchkhibgbnhjpabGreatDoorProg
import Derived.WalkKit
import Derived.WalkSpells
import Derived.WalkLawsBesides
import Derived.Laws.IdiomStrings
import Derived.Laws.BytesArg
import Derived.Lib.UnsafeStr
import Derived.Deep.RegionLaw
import Derived.Deep.RegionHeldLaw
open Array renaming getElem?_eq_some_iff→Xa
open List renaming length_append→Xb,length_cons→Xc,concat_eq_append→Xd,take_of_length_le→Xe,take_succ_eq_append_getElem→Xg,eq_nil_of_length_eq_zero→Xh,drop_eq_getElem_cons→Xi,getElem?_eq_getElem→Xj,length_drop→Xk,drop_of_length_le→Xl,length_take_le→Xo,getElem_mem→Xp,length_nil→Xq,getElem_concat_length→Xr,eq_nil_or_concat→Xt,getElem_drop→Xu,append_assoc→Xv,length_take→Xw,append_nil→Xy,length_map→Xz,drop_zero→XA
open Nat renaming zero_le→Xf,zero_add→Xm,le_refl→Xn,mul_le_mul→XB,le_trans→XC,add_zero→XD,sub_self→XE
open UInt8 renaming toNat_ofNat_of_lt'→Xs
open Go.Value renaming string→J,bool→C,int→I
open Go.IntKind renaming i64→X
open Go.Ending renaming returned→Y
open Go.Obj renaming cells→O
namespace Go.Proofs.YtchkhibgbnhjpabGreatDoor
open Tryz
open Go.RowKit
set_option maxHeartbeats 800000
set_option maxRecDepth 100000
structure Flo where
 n:Nat
 ok:Nat->Prop
 new:∀k,n<=k->ok k
abbrev Fl:=Inhabited Flo
variable [Fl]
set_option linter.all false
abbrev Fl.n[Fl]:Nat:=(default:Flo).n
abbrev Fl.ok[Fl]:Nat->Prop:=(default:Flo).ok
theorem Fl.new[Fl](k:Nat)(h:Fl.n<=k):Fl.ok k:=(default:Flo).new k h
abbrev LB:=List UInt8
abbrev LI:=List Int
abbrev LA:=List ByteArray
abbrev BA:=ByteArray
theorem _root_.Go.RowKit.Hid.o{p:Prop}(h:Hid p):p:=h
theorem ifN{c:Prop}{d:Decidable c}(h:¬c){α:Type}{t e:α}:(if c then t else e)=e:=if_neg h
theorem ifP{c:Prop}{d:Decidable c}(h:c){α:Type}{t e:α}:(if c then t else e)=t:=if_pos h
theorem ZaF{p:Nat->Prop}(h:∀i,p i):p 0/\p 1/\p 2/\p 3/\p 4/\p 5/\p 6/\p 7/\p 8/\p 9/\p 10/\p 11/\p 12/\p 13:=⟨h 0,h 1,h 2,h 3,h 4,h 5,h 6,h 7,h 8,h 9,h 10,h 11,h 12,h 13⟩
def tl(s:ByteArray):List UInt8:=s.data.toList
theorem Za(s:BA):(tl s).length=s.size:=by unfold tl ByteArray.size;rw[Array.length_toList]
theorem Zeu(s:BA)(k:Nat)(h:k<s.size):(tl s)[k]'(by rw[Za];exact h)=s[k]:=rfl
theorem Zt(s:BA)(k:Nat)(h:k<s.size):(tl s).take (k+1)=(tl s).take k++[s[k]]:=by rw[Xg (by rw[Za];exact h),Zeu s k h]
theorem ZB(s:BA)(k:Nat)(h:k<s.size):(tl s).drop k=s[k]::(tl s).drop (k+1):=by rw[Xi (by rw[Za];exact h),Zeu s k h]
theorem ZQ(s:BA)(k:Nat)(h:s.size<=k):(tl s).take k=tl s:=Xe (by rw[Za];exact h)
theorem Zu(s:BA)(k:Nat)(h:s.size<=k):(tl s).drop k=[]:=Xl (by rw[Za];exact h)
theorem tl_mk(l:LB):tl ⟨l.toArray⟩=l:=by simp[tl]
theorem tl_extract(s:BA)(a b:Nat):tl (s.extract a b)=((tl s).take b).drop a:=by unfold tl;rw[ByteArray.data_extract,Array.toList_extract,List.extract_eq_take_drop,List.drop_take]
theorem Zcs{s t:BA}(h:tl s=tl t):s=t:=by cases s with|mk a=>cases t with|mk b=>unfold tl at h;congr;exact Array.toList_inj.1 h
theorem A{p:Prop}(h:p):Hid p:=h
theorem bb(b:UInt8):b.toNat<256:=b.toNat_lt
theorem Zm{a b:Bool}(h:a=b):Ending.returned (C a)=Y (C b):=by rw[h]
theorem Zaw{k:IntKind}{a b:Int}(h:a=b):Ending.returned (.int k a)=Y (.int k b):=by rw[h]
def among(c:Int)(t:List UInt8):Bool:=t.any fun b=>(b.toNat:Int)==c
theorem among_snoc(c:Int)(t:LB)(b:UInt8):among c (t++[b])=(among c t||(b.toNat:Int)==c):=by simp[among]
theorem Zld(c:Int)(t:BA)(k:Nat)(h:k<t.size)(he:((t[k].toNat:Int)==c)=true):among c (tl t)=true:=by unfold among;rw[List.any_eq_true];exact⟨t[k],by rw[<-Zeu t k h];exact Xp _,he⟩
theorem Zbz(c:Int)(t:BA)(w:World)(ht:t.size<=maxLen):Calls prog 175 #[I X c,J t] w fun e w'=>e=Y (C (among c (tl t)))/\w=w':=by
 unfold maxLen at ht
 go_enter func175,ntmps175
 go_wp2
 go_loop [5] (fun i=>∃k:Nat,k<=t.size/\i=I X k/\among c ((tl t).take k)=false) (fun i=>t.size-(intOf i).toNat)
 case atStart=>exact⟨0,Xf _,rfl,rfl⟩
 case round=>
  obtain⟨k,hk,rfl,ha⟩:=hrel;have HA:Hid (among c ((tl t).take k)=false):=ha;clear ha
  by_cases hlt:k<t.size
  .have hb:=bb t[k]
   go_wp2
   .go_ret
    exact⟨Zm (Zld c t k hlt (by assumption)).symm,rfl⟩
   .go_round
    exact⟨k+1,by omega,by go_num,by rw[Zt t k hlt,among_snoc,HA.o];assumption⟩
    simp[intOf];omega
  .go_wp2
   go_ret
   exact⟨Zm (by rw[<-HA.o,ZQ _ _ (by omega)]),rfl⟩
def alpha(c:Int):Bool:=decide ((97<=c/\c<=122)∨(65<=c/\c<=90))
def numeral(c:Int):Bool:=decide (48<=c/\c<=57)
theorem ZdQ(c:Int)(w:World):Calls prog 210 #[I X c] w fun e w'=>e=Y (C (alpha c))/\w=w':=by
 go_enter func210,ntmps210
 go_wp2
 all_goals go_ret
 all_goals exact⟨Zm (by rw[Bool.eq_iff_iff];simp[alpha];omega),rfl⟩
theorem Zc4(c:Int)(w:World):Calls prog 211 #[I X c] w fun e w'=>e=Y (C (numeral c))/\w=w':=by
 go_enter func211,ntmps211
 go_wp2
 all_goals go_ret
 all_goals exact⟨Zm (by rw[Bool.eq_iff_iff];simp[numeral];omega),rfl⟩
abbrev Nx(w w':World):Prop:=Below w.heap.size w w'
theorem Nx.rfl{w:World}:Nx w w:=Below.refl _ _
theorem Nx.then{a b c:World}(h:Nx a b)(k:Nx b c):Nx a c:=h.trans (k.mono h.size)
def Kp(e:TypeId)(w w':World):Prop:=w.heap.size<=w'.heap.size/\∀(k:Nat) (cs:Array Value) (t:TypeId) (fz:Nat×Nat),w.heap[k]?=some (O cs t fz)->t≠e->w'.heap[k]?=some (O cs t fz)
theorem Kp.rfl{e:TypeId}{w:World}:Kp e w w:=⟨Xn _,fun _ _ _ _ h _=>h⟩
theorem Kp.then{e:TypeId}{a b c:World}(h:Kp e a b)(k:Kp e b c):Kp e a c:=⟨XC h.1 k.1,fun i cs t fz hi hn=>k.2 i cs t fz (h.2 i cs t fz hi hn) hn⟩
theorem Nx.kp{e:TypeId}{w w':World}(h:Nx w w'):Kp e w w':=⟨h.size,fun k _ _ _ hk _=>(h.block k (Xa.1 hk).1).trans hk⟩
def RowAt{α:Type}(e:TypeId)(f:α->Value)(w:World)(b off:Nat)(l:List α):Prop:=
 ∃(cs:Array Value) (fz:Nat×Nat),w.heap[b]?=some (O cs e fz)/\∀i,(h:i<l.length)->cs[off+i]?=some (f l[i])
def SlAt{α:Type}(e:TypeId)(f:α->Value)(w:World)(v:Value)(l:List α):Prop:=
 ∃ao cap,v=.slice ao l.length cap/\l.length<=cap/\cap<=maxLen/\(ao=none->l=[]/\cap=0)/\∀a,ao=some a->∃b off,a=⟨b,off,none⟩/\RowAt e f w b off l
section
variable {α:Type} {e:TypeId} {f:α->Value} {w w':World} {v:Value} {l:List α} {b off:Nat}
theorem RowAt.cell(h:RowAt e f w b off l){i:Nat}(hi:i<l.length):w.cell? ⟨b,off+i,none⟩=some (f l[i]):=by
 obtain⟨cs,fz,hh,hc⟩:=h
 simpa [World.cell?,hh]using hc i hi
theorem RowAt.lt(h:RowAt e f w b off l):b<w.heap.size:=by obtain⟨cs,fz,hh,_⟩:=h;exact(Xa.1 hh).1
theorem RowAt.on(h:RowAt e f w b off l)(hb:Nx w w'):RowAt e f w' b off l:=by obtain⟨cs,fz,hh,hc⟩:=h;exact⟨cs,fz,(hb.block b (Xa.1 hh).1).trans hh,hc⟩
theorem RowAt.kp{e':TypeId}(h:RowAt e f w b off l)(hb:Kp e' w w')(he:e≠e'):RowAt e f w' b off l:=by obtain⟨cs,fz,hh,hc⟩:=h;exact⟨cs,fz,hb.2 b cs e fz hh he,hc⟩
theorem RowAt.below{B:Nat}(h:RowAt e f w b off l)(hb:Below B w w')(hB:b<B):RowAt e f w' b off l:=by obtain⟨cs,fz,hh,hc⟩:=h;exact⟨cs,fz,(hb.block b hB).trans hh,hc⟩
theorem RowAt.take(h:RowAt e f w b off l)(k:Nat):RowAt e f w b off (l.take k):=by
 obtain⟨cs,fz,hh,hc⟩:=h
 refine⟨cs,fz,hh,fun i hi=>?_⟩
 rw[Xw]at hi
 rw[hc i (by omega),List.getElem_take]
theorem RowAt.drop(h:RowAt e f w b off l)(k:Nat):RowAt e f w b (off+k) (l.drop k):=by
 obtain⟨cs,fz,hh,hc⟩:=h
 refine⟨cs,fz,hh,fun i hi=>?_⟩
 rw[Xk]at hi
 rw[Nat.add_assoc,hc (k+i) (by omega),Xu]
theorem SlAt.on(h:SlAt e f w v l)(hb:Nx w w'):SlAt e f w' v l:=by
 obtain⟨ao,cap,rfl,hlc,hcap,hnone,hsome⟩:=h
 refine⟨ao,cap,rfl,hlc,hcap,hnone,fun a ha=>?_⟩
 obtain⟨b,off,rfl,hr⟩:=hsome a ha;exact⟨b,off,rfl,hr.on hb⟩
theorem SlAt.kp{e':TypeId}(h:SlAt e f w v l)(hb:Kp e' w w')(he:e≠e'):SlAt e f w' v l:=by
 obtain⟨ao,cap,rfl,hlc,hcap,hnone,hsome⟩:=h
 refine⟨ao,cap,rfl,hlc,hcap,hnone,fun a ha=>?_⟩
 obtain⟨b,off,rfl,hr⟩:=hsome a ha;exact⟨b,off,rfl,hr.kp hb he⟩
theorem SlAt.nil(w:World):SlAt e f w (.slice none 0 0) []:=⟨none,0,rfl,by simp,Xf _,fun _=>⟨rfl,rfl⟩,nofun⟩
theorem SlAt.len(h:SlAt e f w v l):l.length<=maxLen:=by obtain⟨ao,cap,rfl,hlc,hcap,_⟩:=h;exact XC hlc hcap
theorem ZuR{cap:Nat}(hr:RowAt e f w b off l)(hlc:l.length<=cap)(hcap:cap<=maxLen):SlAt e f w (.slice (some ⟨b,off,none⟩) l.length cap) l:=
 ⟨_,_,rfl,hlc,hcap,nofun,fun _ ha=>⟨b,off,(Option.some.inj ha).symm,hr⟩⟩
theorem ZdB{cap:Nat}(hr:RowAt e f w b off l)(hlc:l.length<=cap)(hcap:cap<=maxLen)(k:Nat)(hk:k<=l.length):SlAt e f w (.slice (some ⟨b,off,none⟩) k cap) (l.take k):=by
 have hl:(l.take k).length=k:=by rw[Xw];omega
 have:=ZuR (cap:=cap) (hr.take k) (by omega) hcap
 rwa [hl]at this
theorem Zfz{cap:Nat}(hr:RowAt e f w b off l)(hlc:l.length<=cap)(hcap:cap<=maxLen)(k:Nat)(hk:k<=l.length):SlAt e f w (.slice (some ⟨b,off+k,none⟩) (l.length-k) (cap-k)) (l.drop k):=by
 have hl:(l.drop k).length=l.length-k:=Xk
 have:=ZuR (cap:=cap-k) (hr.drop k) (by omega) (by omega)
 rwa [hl]at this
theorem Zjm(hr:RowAt e f w b off l)(k c:Nat)(hk:l.length<=k)(hc:c<=maxLen):SlAt e f w (.slice (some ⟨b,off,none⟩) (l.length-k) c) (l.drop k):=by
 have hl:l.drop k=[]:=Xl hk;obtain⟨cs,fz,hh,_⟩:=hr
 rw[hl,show l.length-k=0 by omega]
 exact⟨some ⟨b,off,none⟩,c,rfl,by simp,hc,nofun,fun _ ha=>⟨b,off,(Option.some.inj ha).symm,cs,fz,hh,fun i h=>by simp at h⟩⟩
theorem Zv{ao:Option Addr}{cap:Nat}{k:Nat}(hk:k<l.length)(hnone:ao=none->l=[]/\cap=0):∃a,ao=some a:=by
 cases ao with
 | none=>have:=(hnone rfl).1;subst this;simp at hk
 | some a=>exact⟨a,rfl⟩
theorem SlAt.open_{k:Nat}(h:SlAt e f w v l)(hk:k<l.length):∃b off cap,v=.slice (some ⟨b,off,none⟩) l.length cap/\l.length<=cap/\cap<=maxLen/\RowAt e f w b off l:=by obtain⟨ao,cap,rfl,hlc,hcap,hnone,hsome⟩:=h;obtain⟨a,rfl⟩:=Zv hk hnone;obtain⟨b,off,rfl,hr⟩:=hsome a rfl;exact⟨b,off,cap,rfl,hlc,hcap,hr⟩
end
abbrev IntsAt(w:World)(v:Value)(l:List Int):Prop:=SlAt 3 (Value.int .i64) w v l
abbrev ZbP(w:World)(v:Value)(l:List ByteArray):Prop:=SlAt 9 Value.string w v l
def cut(l:List Int)(t:List UInt8):List Int×List Int×Bool:=
 match l with
 | []=>([],[],false)
 | c::r=>if among c t then([],r,true)else(c::(cut r t).1,(cut r t).2)
def ZhY(l:List Int)(t:List UInt8)(k:Nat):Prop:=cut l t=(l.take k++(cut (l.drop k) t).1,(cut (l.drop k) t).2)
theorem Zp3(l:LI)(t:LB):ZhY l t 0:=by simp[ZhY]
theorem Zp4{l:LI}{t:LB}{k:Nat}(hk:k<l.length)(h:ZhY l t k)(ha:among l[k] t=false):ZhY l t (k+1):=by unfold ZhY at *;rw[h,Xi hk,Xg hk,Xv];simp only[cut,ha,Bool.false_eq_true,if_false,List.cons_append,List.nil_append]
theorem Zr0{l:LI}{t:LB}{k:Nat}(hk:k<l.length)(h:ZhY l t k)(ha:among l[k] t=true):cut l t=(l.take k,l.drop (k+1),true):=by
 unfold ZhY at h;rw[h,Xi hk]
 simp[cut,ha]
theorem Zr1{l:LI}{t:LB}{k:Nat}(hk:l.length<=k)(h:ZhY l t k):cut l t=(l,[],false):=by
 unfold ZhY at h;rw[h,Xl hk,Xe hk]
 simp[cut]
theorem ZbY(v:Value)(l:LI)(t:BA)(w:World)(ht:t.size<=maxLen)(hv:IntsAt w v l):Calls prog 177 #[v,J t] w fun e w'=>∃v1 v2,e=Y (.tuple #[v1,v2,C (cut l (tl t)).2.2])/\IntsAt w' v1 (cut l (tl t)).1/\IntsAt w' v2 (cut l (tl t)).2.1/\Nx w w':=by
 have HV:Hid (IntsAt w v l):=hv;obtain⟨ao,cap,rfl,hlc,hcap,hnone,hsome⟩:=hv;have HCAP:Hid (cap<=maxLen):=hcap;unfold maxLen at hcap
 go_enter func177,ntmps177
 go_wp2
 go_loop [7] (fun i=>∃k:Nat,k<=l.length/\i=I X k/\ZhY l (tl t) k) (fun i=>l.length-(intOf i).toNat)
 case atStart=>exact⟨0,Xf _,rfl,Zp3 _ _⟩
 case round=>
  obtain⟨k,hk,rfl,hto⟩:=hrel;have HT:Hid (ZhY l (tl t) k):=hto;clear hto
  by_cases hlt:k<l.length
  .obtain⟨a,ha⟩:=Zv hlt hnone
   subst ha;obtain⟨b,off,rfl,hr⟩:=hsome a rfl;have hck:=hr.cell hlt;have HC:=A hr;clear hnone hsome hr
   go_wp2_with (go_at_call 175;refine(Zbz _ _ _ ht).mono ?_;rintro e w' ⟨rfl,rfl⟩)
   .have hr:=Zr0 hlt HT.o (by assumption)
    have HR:=A hr;clear hr
    go_region
    all_goals go_wp2
    all_goals go_ret3
    all_goals rw[HR.o]
    .have hcc:cap=k+1:=by assumption
     subst hcc
     exact⟨_,_,rfl,ZdB HC.o hlc HCAP.o k (by omega),Zjm HC.o (k+1) 0 (by omega) (by simp),Nx.rfl.drew⟩
    .exact⟨_,_,rfl,ZdB HC.o hlc HCAP.o k (by omega),Zfz HC.o hlc HCAP.o (k+1) (by omega),Nx.rfl.drew⟩
   .go_round
    exact⟨k+1,by omega,by go_num,Zp4 hlt HT.o (by assumption)⟩
    simp[intOf];omega
  .go_wp2
   go_ret3
   rw[Zr1 (by omega) HT.o]
   exact⟨_,_,rfl,HV.o,SlAt.nil _,Nx.rfl⟩
theorem ZoK:(prog.info? 5).map (fun i=>(i.zero,i.size,i.bytes))=some (some (.int .u8 0),1,1):=by kernel_rfl
theorem ZfA:(prog.info? 3).map (fun i=>(i.zero,i.size,i.bytes))=some (some (I X 0),1,8):=by kernel_rfl
theorem Zgz:(prog.info? 9).map (fun i=>(i.zero,i.size,i.bytes))=some (some (J ByteArray.empty),1,16):=by kernel_rfl
theorem ZuS:(prog.info? 124).map (fun i=>(i.zero,i.size,i.bytes))=some (some (.slice none 0 0),1,24):=by kernel_rfl
theorem ZhO{w w':World}{base:Nat}{e:TypeId}{size:Nat}{v:Value}{n:Nat}{xs:List Value}(hown:w.ownsRow base e size v n xs)(hg:w.grownBy w' v.ownBlock):Kp e w w':=by
 refine⟨hg.size,?_⟩
 intro k cs t fz hk ht
 refine(hg.block k (Xa.1 hk).1 fun hv=>?_).trans hk
 obtain⟨h1,⟨rfl,h3⟩|⟨g,cap,cur,rfl,h4,h5,h6⟩⟩:=hown
 .cases hv
 .simp only[Value.ownBlock,Option.some.injEq]at hv
  subst hv;rw[hk]at h5;simp only[Option.some.injEq,Obj.cells.injEq]at h5;exact ht h5.2.1
theorem Kp.alloc{e:TypeId}{a w:World}(h:Kp e a w)(o:Obj):Kp e a (w.alloc o):=h.then (Nx.kp ((Below.refl _ _).alloc (Xn _) o))
theorem ZdC{ops:Array Oper}{rest:List Oper}{o:Oper}{a:Act}{Q:Exit->Act->World->Prop}(w:World)(t e:TypeId)(z:Value)(bytes:Nat)
  (ht:prog.underlying t=some (.slice e)) (hinfo:(prog.info? e).map (fun i=>(i.zero,i.size,i.bytes))=some (some z,1,bytes)) (hzs:z.cells.size=1)
  (hgd:o.guard=none) (s x:Operand) (ho:o.op=.call { callee:=.builtin .append,args:=#[s,x],argTypes:=#[t,t] })
  (base:Nat) (v:Value) (n:Nat) (xs:List Value) (hs:a.eval s=v) (hown:w.ownsRow base e 1 v n xs)
  (ad:Addr) (m c:Nat) (news:List Value) (hx:a.eval x=.slice (some ad) m c) (hl:news.length=m) (hnews:∀j u,news[j]?=some u->w.cell? (ad.add j)=some u) (h1:∀u∈news,u.oneCell'=true)
  (hn:n+m<=1099511627776) (hby:bytes<=32) (hbase:base<=w.heap.size)
  (h:∀v' w',w'.ownsRow base e 1 v' (n+m) (xs++news)->Below base w w'->Kp e w w'->wpList prog ops Q rest (a.put o.dst v') w'):wpList prog ops Q (o::rest) a w:=by
 obtain⟨i,hi,hz0,hz1,hz2⟩:=info_parts hinfo
 refine wpList_append_own w hgd s x t ho base e i z 1 bytes ht hi hz0 hz1 hz2 hzs (by decide) v n xs hs hown ad m c news hx (by omega) hnews h1 (by unfold maxLen;omega) ?_ hbase ?_
 .calc (n+m)*bytes<=1099511627776*32:=XB hn hby
   _<=140737488355328:=by decide
 .intro v' w' h2 h3 _
  exact h v' w' h2 ((Below.refl base w).grown h3 hbase (fun k hk=>(hown.lt k hk).1)) (ZhO hown h3)
theorem ZoL{ops:Array Oper}{o:Oper}{a:Act}{K:Act->World->Prop}{Q:Exit->Act->World->Prop}{E:Prop}(w:World)(t e:TypeId)(z:Value)(bytes:Nat)
  (ht:prog.underlying t=some (.slice e)) (hinfo:(prog.info? e).map (fun i=>(i.zero,i.size,i.bytes))=some (some z,1,bytes)) (hzs:z.cells.size=1)
  (hgd:o.guard=none) (s x:Operand) (ho:o.op=.call { callee:=.builtin .append,args:=#[s,x],argTypes:=#[t,t] })
  (base:Nat) (v:Value) (n:Nat) (xs:List Value) (hs:a.eval s=v) (hown:w.ownsRow base e 1 v n xs)
  (ad:Addr) (m c:Nat) (news:List Value) (hx:a.eval x=.slice (some ad) m c) (hl:news.length=m) (hnews:∀j u,news[j]?=some u->w.cell? (ad.add j)=some u) (h1:∀u∈news,u.oneCell'=true)
  (hn:n+m<=1099511627776) (hby:bytes<=32) (hbase:base<=w.heap.size)
  (h:∀v' w',w'.ownsRow base e 1 v' (n+m) (xs++news)->Below base w w'->Kp e w w'->K (a.put o.dst v') w'):if Region.wanted o (yielded ops a.tmps)=true then Oper.wp prog o a w K Q else E:=by
 have hw:Region.wanted o (yielded ops a.tmps)=true:=by simp[Region.wanted,hgd]
 rw[ifP hw];obtain⟨i,hi,hz0,hz1,hz2⟩:=info_parts hinfo
 refine wp_append_own w s x t ho base e i z 1 bytes ht hi hz0 hz1 hz2 hzs (by decide) v n xs hs hown ad m c news hx (by omega) hnews h1 (by unfold maxLen;omega) ?_ hbase ?_
 .calc (n+m)*bytes<=1099511627776*32:=XB hn hby
   _<=140737488355328:=by decide
 .intro v' w' h2 h3 _
  exact h v' w' h2 ((Below.refl base w).grown h3 hbase (fun k hk=>(hown.lt k hk).1)) (ZhO hown h3)
theorem Zf0{w:World}{b off:Nat}{u:Value}(h:w.cell? ⟨b,off,none⟩=some u):∀(j:Nat) (x:Value),[u][j]?=some x->w.cell? ((⟨b,off,none⟩:Addr).add j)=some x:=by
 intro j x hx
 match j,hx with
 | 0,hx=>simp at hx;subst hx;rw[Addr.add_lit];exact h
abbrev Zgy(w:World)(base:Nat)(v:Value)(l:List UInt8):Prop:=w.ownsRow base 5 1 v l.length (Lib.byteCells l)
abbrev OwnI(w:World)(base:Nat)(v:Value)(l:List Int):Prop:=w.ownsRow base 3 1 v l.length (l.map (Value.int .i64))
theorem ZuT{ops:Array Oper}{rest:List Oper}{o:Oper}{a:Act}{Q:Exit->Act->World->Prop}(w:World)
  (hgd:o.guard=none) (s x:Operand) (ho:o.op=.call { callee:=.builtin .append,args:=#[s,x],argTypes:=#[160,160] })
  (base:Nat) (v:Value) (l:LB) (hs:a.eval s=v) (hown:Zgy w base v l)
  (ab ao c:Nat) (y:Int) (hx:a.eval x=.slice (some ⟨ab,ao,none⟩) 1 c) (hcell:w.cell? ⟨ab,ao,none⟩=some (.int .u8 y)) (hy0:0<=y) (hy1:y<=255)
  (hn:l.length<1099511627776) (hbase:base<=w.heap.size)
  (h:∀v' w',Zgy w' base v' (l++[UInt8.ofNat y.toNat])->Below base w w'->Kp 5 w w'->wpList prog ops Q rest (a.put o.dst v') w'):wpList prog ops Q (o::rest) a w:=by
 refine ZdC w _ _ (.int .u8 0) 1 underlying160 ZoK rfl hgd s x ho base v l.length _ hs hown ⟨ab,ao,none⟩ 1 c [.int .u8 y] hx rfl (Zf0 hcell) (by simp[Value.oneCell']) (by omega) (by decide) hbase ?_
 intro v' w' h2 h3 h4
 refine h v' w' ?_ h3 h4
 have e:((UInt8.ofNat y.toNat).toNat:Int)=y:=by rw[Xs (by show y.toNat<256;omega)];omega
 have e2:Lib.byteCells [UInt8.ofNat y.toNat]=[.int .u8 y]:=by simp only[Lib.byteCells,List.map_cons,List.map_nil,e]
 unfold Zgy;rw[Xb,Lib.byteCells_append,e2];exact h2
theorem Zw8{ops:Array Oper}{rest:List Oper}{o:Oper}{a:Act}{Q:Exit->Act->World->Prop}(w:World)
  (hgd:o.guard=none) (s x:Operand) (ho:o.op=.call { callee:=.builtin .append,args:=#[s,x],argTypes:=#[124,124] })
  (base:Nat) (v:Value) (l:LI) (hs:a.eval s=v) (hown:OwnI w base v l)
  (ab ao c:Nat) (y:Int) (hx:a.eval x=.slice (some ⟨ab,ao,none⟩) 1 c) (hcell:w.cell? ⟨ab,ao,none⟩=some (I X y))
  (hn:l.length<1099511627776) (hbase:base<=w.heap.size)
  (h:∀v' w',OwnI w' base v' (l++[y])->Below base w w'->Kp 3 w w'->wpList prog ops Q rest (a.put o.dst v') w'):wpList prog ops Q (o::rest) a w:=by
 refine ZdC w _ _ (I X 0) 8 underlying124 ZfA rfl hgd s x ho base v l.length _ hs hown ⟨ab,ao,none⟩ 1 c [I X y] hx rfl (Zf0 hcell) (by simp[Value.oneCell']) (by omega) (by decide) hbase ?_
 intro v' w' h2 h3 h4
 refine h v' w' ?_ h3 h4
 unfold OwnI
 simpa using h2
theorem ZbA{ops:Array Oper}{rest:List Oper}{o:Oper}{a:Act}{Q:Exit->Act->World->Prop}(w:World)(y:Int)
  (hgd:o.guard=none) (s x:Operand) (ho:o.op=.call { callee:=.builtin .append,args:=#[s,x],argTypes:=#[160,160] })
  (base:Nat) (v:Value) (l:LB) (hs:a.eval s=v) (hown:Zgy w base v l) (hx:a.eval x=.slice (some ⟨w.heap.size,0,none⟩) 1 1) (hy0:0<=y) (hy1:y<=255)
  (hn:l.length<1099511627776) (hbase:base<=w.heap.size)
  (h:∀v' w',Zgy w' base v' (l++[UInt8.ofNat y.toNat])->Below base w w'->Kp 5 w w'->wpList prog ops Q rest (a.put o.dst v') w'):
  wpList prog ops Q (o::rest) a (w.alloc (.cells #[.int .u8 y] 5)):=
 ZuT _ hgd s x ho base v l hs (World.ownsRow.alloc hown _) w.heap.size 0 1 y hx (by simp) hy0 hy1 hn (by simp;omega)
  fun v' w' h1 h2 h3=>h v' w' h1 (((Below.refl base w).alloc hbase _).trans h2) ((Kp.rfl.alloc _).then h3)
theorem Zd8{ops:Array Oper}{rest:List Oper}{o:Oper}{a:Act}{Q:Exit->Act->World->Prop}(w:World)(y:Int)
  (hgd:o.guard=none) (s x:Operand) (ho:o.op=.call { callee:=.builtin .append,args:=#[s,x],argTypes:=#[124,124] })
  (base:Nat) (v:Value) (l:LI) (hs:a.eval s=v) (hown:OwnI w base v l) (hx:a.eval x=.slice (some ⟨w.heap.size,0,none⟩) 1 1)
  (hn:l.length<1099511627776) (hbase:base<=w.heap.size)
  (h:∀v' w',OwnI w' base v' (l++[y])->Below base w w'->Kp 3 w w'->wpList prog ops Q rest (a.put o.dst v') w'):
  wpList prog ops Q (o::rest) a (w.alloc (.cells #[I X y] 3)):=
 Zw8 _ hgd s x ho base v l hs (World.ownsRow.alloc hown _) w.heap.size 0 1 y hx (by simp) hn (by simp;omega)
  fun v' w' h1 h2 h3=>h v' w' h1 (((Below.refl base w).alloc hbase _).trans h2) ((Kp.rfl.alloc _).then h3)
theorem ZhZ{w:World}{b off:Nat}{x y z:Value}(h0:w.cell? ⟨b,off,none⟩=some x)(h1:w.cell? ⟨b,off+1,none⟩=some y)(h2:w.cell? ⟨b,off+2,none⟩=some z):∀(j:Nat) (u:Value),[x,y,z][j]?=some u->w.cell? ((⟨b,off,none⟩:Addr).add j)=some u:=by
 intro j u hu;rw[Addr.add_lit]
 match j,hu with
 | 0,hu=>simp at hu;subst hu;exact h0
 | 1,hu=>simp at hu;subst hu;exact h1
 | 2,hu=>simp at hu;subst hu;exact h2
theorem Zp5{ops:Array Oper}{o:Oper}{a:Act}{K:Act->World->Prop}{Q:Exit->Act->World->Prop}{E:Prop}(w:World)(x0 x1 x2:UInt8)
  (hgd:o.guard=none) (s x:Operand) (ho:o.op=.call { callee:=.builtin .append,args:=#[s,x],argTypes:=#[160,160] })
  (base:Nat) (v:Value) (l:LB) (hs:a.eval s=v) (hown:Zgy w base v l)
  (ab ao c:Nat) (hx:a.eval x=.slice (some ⟨ab,ao,none⟩) 3 c) (h0:w.cell? ⟨ab,ao,none⟩=some (.int .u8 x0.toNat)) (h1:w.cell? ⟨ab,ao+1,none⟩=some (.int .u8 x1.toNat)) (h2:w.cell? ⟨ab,ao+2,none⟩=some (.int .u8 x2.toNat))
  (hn:l.length<1000000000000) (hbase:base<=w.heap.size)
  (h:∀v' w',Zgy w' base v' (l++[x0,x1,x2])->Below base w w'->Kp 5 w w'->K (a.put o.dst v') w'):if Region.wanted o (yielded ops a.tmps)=true then Oper.wp prog o a w K Q else E:=by
 refine ZoL w _ _ (.int .u8 0) 1 underlying160 ZoK rfl hgd s x ho base v l.length _ hs hown ⟨ab,ao,none⟩ 3 c [.int .u8 x0.toNat,.int .u8 x1.toNat,.int .u8 x2.toNat] hx rfl (ZhZ h0 h1 h2) (by simp[Value.oneCell']) (by omega) (by decide) hbase ?_
 intro v' w' q1 q2 q3
 refine h v' w' ?_ q2 q3
 unfold Zgy;rw[Xb,Lib.byteCells_append];exact q1
theorem Zcf{α:Type}{e:TypeId}{f:α->Value}{w:World}{base:Nat}{v:Value}{l:List α}(h:w.ownsRow base e 1 v l.length (l.map f)):SlAt e f w v l:=by
 obtain⟨h1,⟨rfl,h3⟩|⟨g,cap,cur,rfl,h4,h5,h6,h7,h8,h9⟩⟩:=h
 .have:l=[]:=Xh h3
  subst this;exact SlAt.nil w
 .refine ZuR ⟨cur,_,h5,fun i hi=>?_⟩ h6 h7
  have:=congrArg (fun q:List Value=>q[i]?) h9
  simpa [List.getElem?_take,hi,Xj hi]using this
structure Sg (w:World) (v:Value) (l:List ByteArray):Prop where
 at_:ZbP w v l
 fl:∀b,v.ownBlock=some b->Fl.ok b
theorem Zaz{w:World}{base:Nat}{v:Value}{l:LA}(h:w.ownsRow base 9 1 v l.length (l.map Value.string))(hb:Fl.n<=base):Sg w v l:=by
 refine⟨Zcf h,fun b e=>?_⟩
 obtain⟨h1,⟨rfl,h3⟩|⟨g,cap,cur,rfl,h4,h5⟩⟩:=h
 .cases e
 .simp only[Value.ownBlock,Option.some.injEq]at e
  exact Fl.new b (by omega)
theorem Sg.on{w w':World}{v:Value}{l:LA}(h:Sg w v l)(hb:Nx w w'):Sg w' v l:=⟨h.1.on hb,h.2⟩
theorem Sg.kp{w w':World}{v:Value}{l:LA}{e:TypeId}(h:Sg w v l)(hb:Kp e w w')(he:9≠e):Sg w' v l:=⟨h.1.kp hb he,h.2⟩
theorem Sg.nil(w:World):Sg w (.slice none 0 0) []:=⟨SlAt.nil w,nofun⟩
theorem OwnI.ints{w:World}{base:Nat}{v:Value}{l:LI}(h:OwnI w base v l):IntsAt w v l:=Zcf h
theorem Zdp{w:World}{base:Nat}{v:Value}{l:LB}(h:Zgy w base v l):(convert 160 9 v).run prog w=.ok (J ⟨l.toArray⟩) w:=by
 have h0:=h;obtain⟨h1,⟨rfl,h3⟩|⟨g,cap,cur,rfl,h4,h5,h6,h7,h8,h9⟩⟩:=h
 .have:l=[]:=Xh h3
  subst this;exact run_convert_bytes_nil w _ _ underlying160 underlying5 0 0 _ underlying9
 .refine run_convert_bytes_back w _ _ _ ⟨g,0,none⟩ cap l underlying160 underlying5 underlying9 fun j hj=>?_
  exact h0.cells rfl j _ (by simp[Lib.byteCells,Xj hj])
theorem Ze{n:Nat}(h:n<=1000000):n<=maxLen:=by unfold maxLen;omega
def utf(c:Int):List Int:=
 if c<128 then [c]else if c<2048 then [192+c/64,128+c%64]
 else if c<65536 then [224+c/4096,128+c/64%64,128+c%64]else [240+c/262144,128+c/4096%64,128+c/64%64,128+c%64]
def Pt(c:Int):Prop:=0<=c/\c<=1114111
theorem ZhP{c x:Int}(hc:Pt c)(hx:x∈utf c):0<=x/\x<=255:=by
 unfold Pt at hc;unfold utf at hx
 split at hx
 .simp at hx;omega
 .split at hx
  .simp at hx;omega
  .split at hx<;>(simp at hx;omega)
theorem Zkm(c:Int):(utf c).length<=4:=by unfold utf;repeat (first|split|simp)
theorem Zh0(c:Int):1<=(utf c).length:=by unfold utf;repeat (first|split|simp)
theorem Zle{α:Type}{e:TypeId}{f:α->Value}(w:World)(l:List α)(cs:Array Value)(hl:l.length<=1000)(hc:cs.toList=l.map f):SlAt e f (w.alloc (.cells cs e)) (.slice (some ⟨w.heap.size,0,none⟩) l.length l.length) l:=by
 refine ZuR ⟨cs,_,heap_alloc_new w _,fun i hi=>?_⟩ (Xn _) (by unfold maxLen;omega)
 rw[Xm,<-Array.getElem?_toList,hc]
 simp[Xj hi]
theorem Nx.alloc{a w:World}(h:Nx a w)(o:Obj):Nx a (w.alloc o):=Below.alloc h h.size o
theorem Nx.drew{a w:World}(h:Nx a w):Nx a w.drew:=Below.drew h
theorem Zm3(c:Int)(w:World)(hc:Pt c):Calls prog 174 #[I X c] w fun e w'=>∃v,e=Y v/\IntsAt w' v (utf c)/\Nx w w':=by
 obtain⟨h0,h1⟩:=hc
 by_cases c1:c<128
 .have E:=A (show utf c=[c]by simp[utf,c1])
  go_enter func174,ntmps174
  go_wp2;go_ret;rw[E.o]
  exact⟨_,rfl,Zle w [c] _ (by simp) rfl,Nx.rfl.alloc _⟩
 by_cases c2:c<2048
 .have E:=A (show utf c=[192+c/64,128+c%64]by simp[utf,c1,c2])
  go_enter func174,ntmps174
  go_wp2;go_ret;rw[E.o]
  exact⟨_,rfl,Zle w [192+c/64,128+c%64] _ (by simp) rfl,Nx.rfl.alloc _⟩
 by_cases c3:c<65536
 .have E:=A (show utf c=[224+c/4096,128+c/64%64,128+c%64]by simp[utf,c1,c2,c3])
  go_enter func174,ntmps174
  go_wp2;go_ret;rw[E.o]
  exact⟨_,rfl,Zle w [224+c/4096,128+c/64%64,128+c%64] _ (by simp) rfl,Nx.rfl.alloc _⟩
 .have E:=A (show utf c=[240+c/262144,128+c/4096%64,128+c/64%64,128+c%64]by simp[utf,c1,c2,c3])
  go_enter func174,ntmps174
  go_wp2;go_ret;rw[E.o]
  exact⟨_,rfl,Zle w [240+c/262144,128+c/4096%64,128+c/64%64,128+c%64] _ (by simp) rfl,Nx.rfl.alloc _⟩
def flat(l:List Int):List Int:=l.filter fun c=>!among c [9,10,13]
theorem Zr2(l:LI)(c:Int):flat (l++[c])=flat l++(if among c [9,10,13]then []else [c]):=by cases h:among c [9,10,13]<;>simp[flat,List.filter_append,h]
theorem ZoM(l:LI):(flat l).length<=l.length:=List.length_filter_le _ _
theorem Zai(l:LI)(k:Nat)(h:k<l.length):l.take (k+1)=l.take k++[l[k]]:=Xg h
theorem Zf1(v:Value)(l:LI)(w:World)(hv:IntsAt w v l)(hn:l.length<=1000000):Calls prog 131 #[v] w fun e w'=>∃v',e=Y v'/\IntsAt w' v' (flat l)/\Nx w w':=by
 obtain⟨ao,cap,rfl,hlc,hcap,hnone,hsome⟩:=hv;unfold maxLen at hcap
 go_enter func131,ntmps131
 go_wp2
 go_loopw [3,4] (fun o i wr=>∃k:Nat,k<=l.length/\i=I X k/\OwnI wr w.heap.size o (flat (l.take k))/\Nx w wr) (fun _ i _=>l.length-(intOf i).toNat)
 case atStart=>exact⟨0,Xf _,rfl,World.ownsRow_nil _ _ _ _,Nx.rfl⟩
 case round=>
  obtain⟨k,hk,rfl,hown,hnx⟩:=hrel
  by_cases hlt:k<l.length
  .obtain⟨a,ha⟩:=Zv hlt hnone
   subst ha;obtain⟨b,off,rfl,hr⟩:=hsome a rfl;have hck:=(hr.on hnx).cell hlt
   have hsz:(flat (l.take k)).length<1099511627776:=by have:=ZoM (l.take k);have:=Xo k l;omega
   have hz:=hnx.size;have HTK:=A ((congrArg flat (Zai l k hlt)).trans (Zr2 (l.take k) l[k]));have HO:=A hown;have HN:=A hnx;clear hnone hsome hr hown hnx
   go_wp2_with (first|(go_at_call 175;refine(Zbz _ _ _ (Ze (by decide))).mono ?_;rintro e w' ⟨rfl,rfl⟩)|(at_builtin;refine Zd8 wr l[k] rfl _ _ rfl w.heap.size _ _ rfl HO.o rfl hsz hz ?_;intro v' w1 ho1 hb1 _;have HO1:=A ho1;clear ho1))
   .go_roundw
    exact⟨k+1,by omega,by go_num,by rw[HTK.o,ifN (by simpa using ‹(!among _ _)=true›)];exact HO1.o,HN.o.trans hb1⟩
    simp[intOf];omega
   .go_roundw
    exact⟨k+1,by omega,by go_num,by rw[HTK.o,ifP (by simpa using ‹(!among _ _)=false›),Xy];exact HO.o,HN.o⟩
    simp[intOf];omega
  .go_wp2
   go_ret
   rw[Xe (by omega)]at hown
   exact⟨_,rfl,OwnI.ints hown,hnx⟩
theorem Zbw{w w':World}{base:Nat}{e:TypeId}{size:Nat}{v:Value}{n:Nat}{xs:List Value}(h:w.ownsRow base e size v n xs)(hb:Nx w w'):w'.ownsRow base e size v n xs:=by
 obtain⟨h1,h2⟩:=h
 refine⟨h1,?_⟩
 rcases h2 with h2|⟨g,cap,cur,hv,hg,hh,r⟩
 .exact Or.inl h2
 .exact Or.inr ⟨g,cap,cur,hv,hg,(hb.block g (Xa.1 hh).1).trans hh,r⟩
def toB(n:Int):UInt8:=UInt8.ofNat n.toNat
def Zb(l:List Int):List UInt8:=l.flatMap fun c=>(utf c).map toB
theorem bytesOf_snoc(l:LI)(c:Int):Zb (l++[c])=Zb l++(utf c).map toB:=by simp[Zb]
theorem Za9(l:LI):(Zb l).length<=4*l.length:=by
 induction l with
 | nil=>simp[Zb]
 | cons c l ih=>
  have h:=Zkm c;simp only[Zb,List.flatMap_cons,Xb,Xz,Xc]at *
  omega
theorem ZbB(v:Value)(l:LI)(w:World)(hv:IntsAt w v l)(hn:l.length<=1000000)(hp:∀c∈l,Pt c):Calls prog 152 #[v] w fun e w'=>∃r:BA,e=Y (J r)/\tl r=Zb l/\Nx w w':=by
 obtain⟨ao,cap,rfl,hlc,hcap,hnone,hsome⟩:=hv;unfold maxLen at hcap
 go_enter func152,ntmps152
 go_wp2
 go_loopw [3,4] (fun o i wr=>∃k:Nat,k<=l.length/\i=I X k/\Zgy wr w.heap.size o (Zb (l.take k))/\Nx w wr) (fun _ i _=>l.length-(intOf i).toNat)
 case atStart=>exact⟨0,Xf _,rfl,World.ownsRow_nil _ _ _ _,Nx.rfl⟩
 case round=>
  obtain⟨k,hk,rfl,hown,hnx⟩:=hrel
  by_cases hlt:k<l.length
  .obtain⟨a,ha⟩:=Zv hlt hnone
   subst ha;obtain⟨b,off,rfl,hr⟩:=hsome a rfl;have hck:=(hr.on hnx).cell hlt;have HPT:=A (hp l[k] (Xp _));have HTK:=A ((congrArg Zb (Zai l k hlt)).trans (bytesOf_snoc (l.take k) l[k]))
   have hsz:(Zb (l.take k)).length<=4000000:=by have:=Za9 (l.take k);have:=Xo k l;omega
   have HUL:=A (Zkm l[k]);have HO:=A hown;have HN:=A hnx;clear hnone hsome hr hown hnx hp;go_wp2_with fail
   refine(Zm3 _ _ HPT.o).mono ?_
   rintro e w1 ⟨u,rfl,hu,hn1⟩;have HO1:=A (Zbw HO.o hn1);have HN1:=A (HN.o.then hn1);have HU:=A hu;clear hu hn1 HO HN;obtain⟨ub,uoff,ucap,rfl,hulc,hucap,hur⟩:=HU.o.open_ (k:=0) (Zh0 _);unfold maxLen at hucap;have HUC:=A hur;clear hur;go_wp2_with fail
   go_loopw [3,6] (fun o j wr2=>∃m:Nat,m<=(utf l[k]).length/\j=I X m/\Zgy wr2 w.heap.size o (Zb (l.take k)++((utf l[k]).take m).map toB)/\Nx w wr2/\RowAt 3 (Value.int .i64) wr2 ub uoff (utf l[k])) (fun _ j _=>(utf l[k]).length-(intOf j).toNat)
   case atStart=>exact⟨0,Xf _,rfl,by simpa using HO1.o,HN1.o,HUC.o⟩
   case round=>
    clear HO1 HN1 HUC HU;obtain⟨m,hm,rfl,hown,hnx,hur⟩:=hrel
    by_cases hml:m<(utf l[k]).length
    .have hcm:=hur.cell hml
     have hby:=ZhP HPT.o (Xp hml);have hz:=hnx.size
     have hsz2:(Zb (l.take k)++((utf l[k]).take m).map toB).length<1099511627776:=by have:=Xo m (utf l[k]);have:=HUL.o;simp only[Xb,Xz];omega
     have HTM:=A (Zai (utf l[k]) m hml);have HO:=A hown;have HN:=A hnx;have HR:=A hur;clear hown hnx hur;obtain⟨hby0,hby1⟩:=hby
     go_wp2_with (at_builtin;go_must (refine ZbA wr (utf l[k])[m] rfl _ _ rfl w.heap.size _ _ rfl HO.o rfl hby0 hby1 hsz2 hz ?_;intro v' w1 ho1 hb1 hk1;have HO1:=A ho1;clear ho1))
     go_roundw
     exact⟨m+1,by omega,by go_num,by rw[HTM.o,List.map_append,<-Xv];exact HO1.o,HN.o.trans hb1,HR.o.kp hk1 (by decide)⟩
     simp[intOf];omega
    .go_wp2
     go_roundw
     exact⟨k+1,by omega,by go_num,by rw[HTK.o];rw[Xe (l:=utf l[k]) (by omega)]at hown;exact hown,hnx⟩
     simp[intOf];omega
  .rw[Xe (by omega)]at hown
   have hcv:=Zdp hown;have HO:=A hown;clear hown;go_wp2;go_ret;exact⟨_,rfl,tl_mk _,hnx⟩
def digit(c:Int):Int:=if 48<=c/\c<=57 then c-48 else if 97<=c/\c<=102 then c-87 else if 65<=c/\c<=70 then c-55 else -1
abbrev ZuN:ByteArray:=⟨#[48,49,50,51,52,53,54,55,56,57,97,98,99,100,101,102]⟩
theorem ZoN:∀q:Fin 16,((ZuN[q.val]'q.isLt).toNat:Int)=if q.val<10 then 48+(q.val:Int)else 87+(q.val:Int):=by decide
theorem Zw9(k:Nat)(h:k<16)(h9:k<10):((ZuN[k]'h).toNat:Int)=48+(k:Int):=by have:=ZoN ⟨k,h⟩;simpa [h9]using this
theorem Zxa(k:Nat)(h:k<16)(h9:¬k<10):((ZuN[k]'h).toNat:Int)=87+(k:Int):=by have:=ZoN ⟨k,h⟩;simpa [h9]using this
theorem Zev(c:Int):-1<=digit c/\digit c<=15:=by unfold digit;split;omega;split;omega;split<;>omega
theorem ZyV{c:Int}{k:Nat}(hk:k<10)(h:¬c=48+(k:Int)):¬digit c=k:=by unfold digit;split;omega;split;omega;split<;>omega
theorem ZyW{c:Int}{k:Nat}(hk:¬k<10)(h:¬c=87+(k:Int))(h2:¬c=55+(k:Int)):¬digit c=k:=by unfold digit;split;omega;split;omega;split<;>omega
theorem Zr3{c:Int}{k:Nat}(h:∀j:Int,0<=j->j<k->¬(digit c=j))(hk:¬digit c=k):∀j:Int,0<=j->j<((k+1:Nat):Int)->¬(digit c=j):=by
 intro j h0 h1 hj
 by_cases e:j=k
 .exact hk (by omega)
 .exact h j h0 (by omega) hj
theorem ZS(c:Int)(w:World):Calls prog 286 #[I X c] w fun e w'=>e=Y (I X (digit c))/\w=w':=by
 go_enter func286,ntmps286
 go_wp2
 go_loop [4] (fun i=>∃k:Nat,k<=16/\i=I X k/\∀j:Int,0<=j->j<k->¬(digit c=j)) (fun i=>16-(intOf i).toNat)
 case atStart=>exact⟨0,by omega,rfl,fun j h0 h1=>by omega⟩
 case round=>
  obtain⟨k,hk,rfl,hno⟩:=hrel;have HNO:=A hno;clear hno
  by_cases hlt:k<16
  .have hlt':k<ZuN.size:=hlt
   by_cases h9:k<10
   .have hv:=Zw9 k hlt h9
    go_wp2
    .go_ret
     exact⟨Zaw (by unfold digit;rw[ifP (by omega)];omega),rfl⟩
    .go_round
     exact⟨k+1,by omega,by go_num,Zr3 HNO.o (ZyV h9 (by first|assumption|(have h:=‹_=false›;simpa using h)))⟩
     simp[intOf];omega
   .have hv:=Zxa k hlt h9
    go_wp2
    .go_ret
     exact⟨Zaw (by unfold digit;rw[ifN (by omega),ifP (by omega)];omega),rfl⟩
    .go_ret
     have h:=‹_∨_›;simp only[beq_iff_eq]at h
     exact⟨Zaw (by unfold digit;rw[ifN (by omega),ifN (by omega),ifP (by omega)];omega),rfl⟩
    .have h:=‹_=false/\_=false›
     simp only[beq_eq_false_iff_ne,ne_eq]at h
     go_round
     exact⟨k+1,by omega,by go_num,Zr3 HNO.o (ZyW (by omega) h.1 (by omega))⟩
     simp[intOf];omega
  .go_wp2
   go_ret
   exact⟨Zaw (by
    have h:=HNO.o;have hr:=Zev c
    by_cases e:digit c=-1
    .exact e.symm
    .exact absurd rfl (h (digit c) (by omega) (by omega))),rfl⟩
def Zkn(l:List Int):List Int:=l.dropWhile fun c=>decide (c<=32)
def Zex(l:List Int):List Int:=(l.reverse.dropWhile fun c=>decide (c<=32)).reverse
def trimmed(l:List Int):List Int:=Zex (Zkn l)
theorem Zjn(c:Int)(l:LI):Zkn (c::l)=if c<=32 then Zkn l else c::l:=by by_cases h:c<=32<;>simp[Zkn,h]
theorem Ze4(c:Int)(l:LI):Zex (l++[c])=if c<=32 then Zex l else l++[c]:=by by_cases h:c<=32<;>simp[Zex,h]
def Zbl:Value->Nat | .slice _ n _=>n|_=>0
theorem Zxb{α:Type}{e:TypeId}{f:α->Value}{w:World}{b off cap:Nat}{c:α}{r:List α}(hr:RowAt e f w b off (c::r))(hlc:(c::r).length<=cap)(hcap:cap<=maxLen):SlAt e f w (.slice (some ⟨b,off+1,none⟩) r.length (cap-1)) r:=by
 have h:=Zfz hr hlc hcap 1 (by simp)
 simpa using h
theorem ZuU{α:Type}{e:TypeId}{f:α->Value}{w:World}{b off:Nat}{c:α}{r:List α}(hr:RowAt e f w b off (c::r))(hlc:(c::r).length<=1):SlAt e f w (.slice (some ⟨b,off,none⟩) r.length 0) r:=by
 have h:=Zjm hr 1 0 hlc (Xf _)
 simpa using h
theorem Zr4{α:Type}{e:TypeId}{f:α->Value}{w:World}{b off cap:Nat}{c:α}{r:List α}(hr:RowAt e f w b off (r++[c]))(hlc:(r++[c]).length<=cap)(hcap:cap<=maxLen):SlAt e f w (.slice (some ⟨b,off,none⟩) r.length cap) r:=by
 have h:=ZdB hr hlc hcap r.length (by simp)
 simpa using h
theorem Zjo{α:Type}{e:TypeId}{f:α->Value}{w:World}{b off cap:Nat}{c:α}{r:List α}(hr:RowAt e f w b off (c::r))(hlc:(c::r).length<=cap)(hcap:cap<=maxLen):SlAt e f w (.slice (if cap=1 then some ⟨b,off,none⟩else some ⟨b,off+1,none⟩) r.length (cap-1)) r:=by
 split
 .subst cap;exact ZuU hr hlc
 .exact Zxb hr hlc hcap
theorem Zc5(v:Value)(l:LI)(w:World)(hv:IntsAt w v l):Calls prog 198 #[v] w fun e w'=>∃v',e=Y v'/\IntsAt w v' (trimmed l)/\w=w':=by
 go_enter func198,ntmps198
 go_wp2
 go_loop [0] (fun x=>∃m,IntsAt w x m/\trimmed l=trimmed m) (fun x=>Zbl x)
 case atStart=>exact⟨l,hv,rfl⟩
 case round=>
  obtain⟨m,hm,hE⟩:=hrel;have HE:=A hE;have HM:=A hm;clear hE
  match m,hm,HE,HM with
  | [],hm,HE,HM=>
   obtain⟨ao,cap,rfl,hlc,hcap,_,_⟩:=hm;go_wp2
   go_loop [0] (fun x=>∃m2,IntsAt w x m2/\trimmed l=Zex m2) (fun x=>Zbl x)
   case atStart=>exact⟨_,HM.o,HE.o.trans (congrArg Zex (rfl))⟩
   case round=>
    obtain⟨m2,hm2,hE2⟩:=hrel;clear HE HM;have HE:=A hE2;have HM:=A hm2;clear hE2;rcases Xt m2 with rfl|⟨r2,c2,rfl⟩
    .obtain⟨ao2,cap2,rfl,hlc2,hcap2,_,_⟩:=hm2
     go_wp2;go_ret
     exact⟨_,rfl,by rw[HE.o];exact HM.o,rfl⟩
    .obtain⟨b2,off2,cap2,rfl,hlc2,hcap2,hr2⟩:=hm2.open_ (k:=0) (by simp)
     have hc2:=hr2.cell (i:=r2.length) (by simp)
     simp only[Xd,Xr]at hc2;have HR2:=A hr2;clear hr2 hm2;simp only[Xd]at HE HR2 hlc2;simp only[Xd,Xb,Xc,Xq,Xm]
     have hlc3:r2.length+1<=cap2:=by simpa using hlc2
     have HCAP2:=A hcap2;unfold maxLen at hcap2
     by_cases h322:c2<=32
     .have HT2:=A (show Zex (r2++[c2])=Zex r2 by rw[Ze4,ifP h322])
      go_wp2
      go_round
      exact⟨r2,Zr4 HR2.o (by simpa using hlc3) HCAP2.o,HE.o.trans HT2.o⟩
      simp[Zbl]
     .have HT2:=A (show Zex (r2++[c2])=r2++[c2]by rw[Ze4,ifN h322])
      go_wp2;go_ret
      exact⟨_,rfl,by rw[HE.o,HT2.o];simpa using HM.o,rfl⟩
  | c::r,hm,HE,HM=>
   obtain⟨b,off,cap,rfl,hlc,hcap,hr⟩:=hm.open_ (k:=0) (by simp)
   have hc0:=hr.cell (i:=0) (by simp)
   simp only[XD,List.getElem_cons_zero]at hc0;have HR:=A hr;have HCAP:=A hcap;unfold maxLen at hcap
   have hlc1:r.length+1<=cap:=by simpa using hlc
   clear hr hm
   by_cases h32:c<=32
   .have HT:=A (show trimmed (c::r)=trimmed r by unfold trimmed;rw[Zjn,ifP h32])
    go_wp2
    go_round
    exact⟨r,Zjo HR.o (by simpa using hlc1) HCAP.o,HE.o.trans HT.o⟩
    simp[Zbl]
   have HT:=A (show Zkn (c::r)=c::r by rw[Zjn,ifN h32])
   go_wp2
   go_loop [0] (fun x=>∃m2,IntsAt w x m2/\trimmed l=Zex m2) (fun x=>Zbl x)
   case atStart=>exact⟨_,HM.o,HE.o.trans (congrArg Zex (HT.o))⟩
   case round=>
    obtain⟨m2,hm2,hE2⟩:=hrel;clear HE HM;have HE:=A hE2;have HM:=A hm2;clear hE2;rcases Xt m2 with rfl|⟨r2,c2,rfl⟩
    .obtain⟨ao2,cap2,rfl,hlc2,hcap2,_,_⟩:=hm2
     go_wp2;go_ret
     exact⟨_,rfl,by rw[HE.o];exact HM.o,rfl⟩
    .obtain⟨b2,off2,cap2,rfl,hlc2,hcap2,hr2⟩:=hm2.open_ (k:=0) (by simp)
     have hc2:=hr2.cell (i:=r2.length) (by simp)
     simp only[Xd,Xr]at hc2;have HR2:=A hr2;clear hr2 hm2;simp only[Xd]at HE HR2 hlc2;simp only[Xd,Xb,Xc,Xq,Xm]
     have hlc3:r2.length+1<=cap2:=by simpa using hlc2
     have HCAP2:=A hcap2;unfold maxLen at hcap2
     by_cases h322:c2<=32
     .have HT2:=A (show Zex (r2++[c2])=Zex r2 by rw[Ze4,ifP h322])
      go_wp2
      go_round
      exact⟨r2,Zr4 HR2.o (by simpa using hlc3) HCAP2.o,HE.o.trans HT2.o⟩
      simp[Zbl]
     .have HT2:=A (show Zex (r2++[c2])=r2++[c2]by rw[Ze4,ifN h322])
      go_wp2;go_ret
      exact⟨_,rfl,by rw[HE.o,HT2.o];simpa using HM.o,rfl⟩
theorem Zf2{y:Int}(h0:0<=y)(h1:y<=255):((toB y).toNat:Int)=y:=by unfold toB;rw[Xs (by show y.toNat<256;omega)];omega
theorem Zxc(w:World)(y:Int)(h0:0<=y)(h1:y<=255):(convert 160 9 (.slice (some ⟨w.heap.size,0,none⟩) 1 1)).run prog (w.alloc (.cells #[.int .u8 y] 5))=.ok (J ⟨#[toB y]⟩) (w.alloc (.cells #[.int .u8 y] 5)):=by
 refine run_convert_bytes_back (w.alloc (.cells #[.int .u8 y] 5)) _ _ _ ⟨w.heap.size,0,none⟩ 1 [toB y] underlying160 underlying5 underlying9 fun j hj=>?_
 have hj0:j=0:=by simpa using hj
 subst hj0;rw[Addr.add_lit]
 simp[Zf2 h0 h1]
theorem tl_append(a b:BA):tl (a++b)=tl a++tl b:=by unfold tl;rw[ByteArray.data_append,Array.toList_append]
theorem Zr5{a b:BA}(h:a=b):Ending.returned (J a)=Y (J b):=by rw[h]
def dec(n:Nat):List UInt8:=if 9<n then dec (n/10)++[UInt8.ofNat (48+n%10)]else [UInt8.ofNat (48+n)]
 termination_by n
 decreasing_by omega
theorem ZdD(n:Nat):(dec n).length<=n+1:=by
 induction n using Nat.strongRecOn with
 | ind n ih=>
  rw[dec]
  split
  .have:=ih (n/10) (by omega)
   simp only[Xb,Xc,Xq]
   omega
  .simp
theorem ZdE(N:Nat):∀(n:Int) (w:World),0<=n->n<=N->N<=1000000000000 ->
  Calls prog 117 #[I X n] w fun e w'=>∃r:BA,e=Y (J r)/\tl r=dec n.toNat/\Nx w w':=by
 induction N using Nat.strongRecOn with
 | ind N ih=>
  intro n w h0 h1 hN
  by_cases h9:9<n
  .have IH:=A (ih (N/10) (by omega))
   have HE:=A (show dec n.toNat=dec (n/10).toNat++[toB (48+n%10)]by
    rw[dec,ifP (by omega)]
    unfold toB
    rw[show(n/10).toNat=n.toNat/10 by omega,show(48+n%10).toNat=48+n.toNat%10 by omega])
   clear ih
   go_enter func117,ntmps117
   go_wp2_with fail
   refine(IH.o _ _ (by omega) (by omega) (by omega)).mono ?_
   rintro e w1 ⟨r,rfl,hr,hn1⟩
   have hrs:r.size<=1000000000001:=by have h:=congrArg List.length hr;have h2:=ZdD (n/10).toNat;rw[Za]at h;omega
   have HRR:=A hr;clear hr
   have hcv:=fun wx=>Zxc wx (48+n%10) (by omega) (by omega)
   go_wp2;go_ret
   exact⟨_,rfl,by rw[tl_append,HRR.o,HE.o];rfl,hn1.alloc _⟩
  .have HE:=A (show dec n.toNat=[toB (48+n)]by
    rw[dec,ifN (by omega)]
    unfold toB
    rw[show(48+n).toNat=48+n.toNat by omega])
   clear ih
   have hcv:=fun wx=>Zxc wx (48+n) (by omega) (by omega)
   go_enter func117,ntmps117
   go_wp2;go_ret
   exact⟨_,rfl,by rw[HE.o];rfl,Nx.rfl.alloc _⟩
def decoded:List UInt8->List UInt8
 | []=>[]
 | c::r=>
  match r with
  | x::y::q=>if c=37/\0<=digit x.toNat/\0<=digit y.toNat then toB (16*digit x.toNat+digit y.toNat)::decoded q else c::decoded (x::y::q)
  | [x]=>c::decoded [x]
  | []=>[c]
 termination_by l=>l.length
 decreasing_by all_goals simp_wf<;>omega
theorem ZeB(c:UInt8)(r:LB)(h:∀x y q,r=x::y::q->¬(c=37/\0<=digit x.toNat/\0<=digit y.toNat)):decoded (c::r)=c::decoded r:=by
 match r,h with
 | [],_=>simp[decoded]
 | [x],_=>simp[decoded]
 | x::y::q,h=>rw[decoded,ifN (h x y q rfl)]
theorem Zh1(x y:UInt8)(q:LB)(hx:0<=digit x.toNat)(hy:0<=digit y.toNat):decoded (37::x::y::q)=toB (16*digit x.toNat+digit y.toNat)::decoded q:=by rw[decoded,ifP ⟨rfl,hx,hy⟩]
theorem Zz{s:BA}(h:s.size=0):tl s=[]:=Xh (by rw[Za];exact h)
theorem tl_from(s:BA)(k:Nat):tl (s.extract k s.size)=(tl s).drop k:=by rw[tl_extract,ZQ s s.size (Xn _)]
theorem tl_to(s:BA)(k:Nat):tl (s.extract 0 k)=(tl s).take k:=by rw[tl_extract,XA]
theorem Zko(s:BA)(h:0<s.size):(tl s).take 1=[s[0]]:=by have:=Zt s 0 h;simpa using this
theorem Zc6(l:LB):(decoded l).length<=l.length:=by
 induction l using decoded.induct with
 | case1=>simp[decoded]
 | case2 c x y q h ih=>rw[decoded,ifP h];simp only[Xc];omega
 | case3 c x y q h ih=>rw[decoded,ifN h];simp only[Xc]at *;omega
 | case4 c x ih=>rw[decoded];simp only[Xc]at *;omega
 | case5 c=>simp[decoded]
theorem ZfB(N:Nat):∀(s:BA) (w:World),s.size<=N->N<=1000000 ->
  Calls prog 248 #[J s] w fun e w'=>∃r:BA,e=Y (J r)/\tl r=decoded (tl s)/\Nx w w':=by
 induction N with
 | zero=>
  intro s w hs _
  have hs0:s.size=0:=by omega
  have HE:=A (show decoded (tl s)=[]by rw[Zz hs0];simp[decoded])
  go_enter func248,ntmps248
  go_wp2;go_ret
  exact⟨_,rfl,by rw[HE.o];rfl,Nx.rfl⟩
 | succ N ih=>
  intro s w hs hN
  by_cases h0:s.size=0
  .have HE:=A (show decoded (tl s)=[]by rw[Zz h0];simp[decoded])
   clear ih
   go_enter func248,ntmps248
   go_wp2;go_ret
   exact⟨_,rfl,by rw[HE.o];rfl,Nx.rfl⟩
  have IH:=A ih;clear ih
  have hpos:0<s.size:=by omega
  have hl0:=ZB s 0 hpos;simp only[XA,Xm]at hl0
  by_cases hit:∃h3:2<s.size,s[0]=37/\(0:Int)<=digit (s[1].toNat:Int)/\(0:Int)<=digit (s[2].toNat:Int)
  .obtain⟨h3,hp,hd1,hd2⟩:=hit
   have hp':((s[0].toNat:Int)==37)=true:=by rw[hp];rfl
   obtain⟨hr1,hr1'⟩:=Zev s[1].toNat;obtain⟨hr2,hr2'⟩:=Zev s[2].toNat
   have HE:=A (show decoded (tl s)=toB ((16:Int)*digit (s[1].toNat:Int)+digit (s[2].toNat:Int))::decoded ((tl s).drop 3)by
    rw[hl0,ZB s 1 (by omega),ZB s 2 (by omega),hp,Zh1 _ _ _ hd1 hd2];rfl)
   have hb1:=bb s[1];have hb2:=bb s[2];clear hp hl0
   have hcv:=fun wx=>Zxc wx ((16:Int)*digit (s[1].toNat:Int)+digit (s[2].toNat:Int)) (by omega) (by omega)
   go_enter func248,ntmps248
   go_wp2_with (first|(go_at_call 286;refine(ZS _ _).mono ?_;rintro e w' ⟨rfl,rfl⟩))
   refine(IH.o _ _ (by simp;omega) (by omega)).mono ?_
   rintro e w1 ⟨r,rfl,hr,hn1⟩
   have hrs:r.size<=1000000:=by have h:=congrArg List.length hr;rw[Za]at h;have h2:=Zc6 (tl (s.extract 3 s.size));rw[Za]at h2;simp at h2;omega
   have HRR:=A hr;clear hr;go_wp2;go_ret
   exact⟨_,rfl,by rw[tl_append,HRR.o,HE.o,tl_from];rfl,hn1.alloc _⟩
  have HE:=A (show decoded (tl s)=s[0]::decoded ((tl s).drop 1)by
   rw[hl0]
   refine ZeB _ _ fun x y q e hc=>hit ?_
   have hl:=congrArg List.length e;simp only[Xk,Za,Xc]at hl
   have h3:2<s.size:=by omega
   rw[ZB s 1 (by omega),ZB s 2 (by omega)]at e
   simp only[List.cons.injEq]at e
   exact⟨h3,hc.1,by rw[e.1];exact hc.2.1,by rw[e.2.1];exact hc.2.2⟩)
  clear hl0
  by_cases h3:2<s.size
  focus
   have hb1:=bb s[1];have hb2:=bb s[2];have hr1:=Zev s[1].toNat;have hr2:=Zev s[2].toNat
   by_cases hp:s[0]=37
   focus
    have hp':((s[0].toNat:Int)==37)=true:=by rw[hp];rfl
    have hno:¬((0:Int)<=digit (s[1].toNat:Int)/\(0:Int)<=digit (s[2].toNat:Int)):=fun h=>hit ⟨h3,hp,h⟩
    clear hp hit
    by_cases hd1:(0:Int)<=digit (s[1].toNat:Int)
    focus
     have hd2:¬(0:Int)<=digit (s[2].toNat:Int):=fun h=>hno ⟨hd1,h⟩
     clear hno
    rotate_left
    focus
     clear hno
   rotate_left 2
   focus
    have hp':((s[0].toNat:Int)==37)=false:=by
     simp only[beq_eq_false_iff_ne,ne_eq];intro h
     exact hp (UInt8.toNat_inj.1 (by show s[0].toNat=37;omega))
    clear hp hit
  rotate_left 3
  focus
   clear hit
  all_goals
   go_enter func248,ntmps248
   go_wp2_with (first|(go_at_call 286;refine(ZS _ _).mono ?_;rintro e w' ⟨rfl,rfl⟩))
   refine(IH.o _ _ (by simp;omega) (by omega)).mono ?_
   rintro e w1 ⟨r,rfl,hr,hn1⟩
   have hrs:r.size<=1000000:=by have h:=congrArg List.length hr;rw[Za]at h;have h2:=Zc6 (tl (s.extract 1 s.size));rw[Za]at h2;simp at h2;omega
   have HRR:=A hr;clear hr;go_wp2;go_ret
   exact⟨_,rfl,by rw[tl_append,HRR.o,HE.o,tl_from,tl_to,Zko s hpos];rfl,hn1⟩
def Zey(b:UInt8):UInt8:=if 65<=b.toNat/\b.toNat<=90 then b+32 else b
def lower(l:List UInt8):List UInt8:=l.map Zey
theorem ZoO{b:UInt8}(h0:65<=b.toNat)(h1:b.toNat<=90):((Zey b).toNat:Int)=(b.toNat:Int)+32:=by unfold Zey;rw[ifP ⟨h0,h1⟩,UInt8.toNat_add];show(((b.toNat+32)%256:Nat):Int)=_;omega
theorem Zlh{b:UInt8}(h:¬(65<=b.toNat/\b.toNat<=90)):Zey b=b:=by unfold Zey;rw[ifN h]
def RowB(w:World)(b:Nat)(l:List UInt8):Prop:=
 ∃(cs:Array Value) (n:Nat),w.heap[b]?=some (O cs 5 (n,n+1))/\l.length<=n/\∀i,(h:i<l.length)->cs[i]?=some (.int .u8 (l[i].toNat:Int))
theorem RowB.cell{w:World}{b:Nat}{l:LB}(h:RowB w b l){i:Nat}(hi:i<l.length):w.cell? ⟨b,i,none⟩=some (.int .u8 (l[i].toNat:Int)):=by
 obtain⟨cs,n,hh,_,hc⟩:=h
 simpa [World.cell?,hh]using hc i hi
theorem RowB.free{w:World}{b:Nat}{l:LB}(h:RowB w b l){i:Nat}(hi:i<l.length):w.frozen? ⟨b,i,none⟩=false:=by
 obtain⟨cs,n,hh,hn,hc⟩:=h
 simp[World.frozen?,hh]
 omega
theorem Zxd(s:BA)(k:Nat)(h:k<s.size):∃hl:k<(lower ((tl s).take k)++(tl s).drop k).length,(lower ((tl s).take k)++(tl s).drop k)[k]=s[k]:=by
 have hlen:(lower ((tl s).take k)).length=k:=by simp[lower,Za];omega
 refine⟨by rw[Xb,hlen,Xk,Za];omega,?_⟩
 rw[List.getElem_append_right (by omega)]
 simp only[hlen,XE,Xu,XD];exact Zeu s k h
theorem ZuV(s:BA)(k:Nat)(h:k<s.size):lower ((tl s).take (k+1))++(tl s).drop (k+1)=(lower ((tl s).take k)++(tl s).drop k).set k (Zey s[k]):=by
 have hlen:(lower ((tl s).take k)).length=k:=by simp[lower,Za];omega
 rw[ZB s k h,Zt s k h,List.set_append,ifN (by omega),hlen,XE,List.set_cons_zero]
 simp[lower]
theorem ZuW(s:BA)(k:Nat)(h:k<s.size)(hb:Zey s[k]=s[k]):lower ((tl s).take (k+1))++(tl s).drop (k+1)=lower ((tl s).take k)++(tl s).drop k:=by
 rw[ZB s k h,Zt s k h]
 simp[lower,hb]
theorem RowB.conv{w:World}{b cap:Nat}{l:LB}(h:RowB w b l):(convert 160 9 (.slice (some ⟨b,0,none⟩) l.length cap)).run prog w=.ok (J ⟨l.toArray⟩) w:=by
 refine run_convert_bytes_back w _ _ _ ⟨b,0,none⟩ cap l underlying160 underlying5 underlying9 fun j hj=>?_
 rw[Addr.add_lit,Xm];exact h.cell hj
theorem Zp7(w:World)(s:BA)(cap:Nat):RowB (w.alloc (.cells (bytesRow s cap) 5 ((bytesRow s cap).size,(bytesRow s cap).size+1))) w.heap.size (tl s):=by
 refine⟨_,_,heap_alloc_new w _,?_,fun i hi=>?_⟩
 .rw[Za];unfold bytesRow;rw[Array.size_append,Array.size_map];exact Nat.le_add_right _ _
 .have hi':i<s.data.size:=by rw[Za]at hi;exact hi
  unfold bytesRow tl
  rw[Array.getElem?_append_left (by simpa using hi'),Array.getElem?_map,Array.getElem?_eq_getElem hi']
  rfl
theorem RowB.set{w:World}{b:Nat}{l:LB}(h:RowB w b l){i:Nat}(hi:i<l.length)(x:UInt8):RowB (w.setCell ⟨b,i,none⟩ (.int .u8 (x.toNat:Int))) b (l.set i x):=by
 obtain⟨cs,n,hh,hn,hc⟩:=h
 refine⟨cs.setIfInBounds i (.int .u8 (x.toNat:Int)),n,?_,by simpa using hn,fun j hj=>?_⟩
 .simp only[World.setCell,Array.getElem?_modify,ifP,hh]
  rfl
 .have hj':j<l.length:=by simpa using hj
  rw[Array.getElem?_setIfInBounds];have hi':i<cs.size:=(Xa.1 (hc i hi)).1
  by_cases e:i=j
  .subst e
   simp[hi']
  .rw[ifN e,hc j hj',List.getElem_set_ne e]
theorem ZeD(s:BA)(w:World)(hs:s.size<=1000000):Calls prog 212 #[J s] w fun e w'=>∃r:BA,e=Y (J r)/\tl r=lower (tl s)/\Nx w w':=by
 have hcv:=fun wx=>run_bytes_of_string (P:=prog) wx 9 160 5 s underlying9 underlying160 underlying5
 go_enter func212,ntmps212
 go_wp2
 go_loopw [4] (fun i wr=>∃k:Nat,k<=s.size/\i=I X k/\RowB wr w.heap.size (lower ((tl s).take k)++(tl s).drop k)/\Nx w wr) (fun i _=>s.size-(intOf i).toNat)
 case atStart=>exact⟨0,Xf _,rfl,Zp7 w s _,(Nx.rfl.alloc _).drew⟩
 case round=>
  clear hcv;obtain⟨k,hk,rfl,hrow,hnx⟩:=hrel
  by_cases hlt:k<s.size
  .obtain⟨hl,hg⟩:=Zxd s k hlt
   have hc:=hrow.cell hl;rw[hg]at hc;have hf:=hrow.free hl;have hb:=bb s[k];have HROW:=A hrow;have HN:=A hnx;have HL:=A hl;clear hrow hnx hg hl
   by_cases hit:65<=s[k].toNat/\s[k].toNat<=90
   .obtain⟨hi0,hi1⟩:=hit
    have HLB:=A (ZoO hi0 hi1);have HST:=A (ZuV s k hlt);go_wp2
    go_roundw
    exact⟨k+1,by omega,by go_num,by rw[HST.o,<-HLB.o];exact HROW.o.set HL.o _,HN.o.setCell (Xn _) _⟩
    simp[intOf];omega
   .have HST:=A (ZuW s k hlt (Zlh hit))
    by_cases hi0:65<=s[k].toNat
    focus
     have hi1:90<s[k].toNat:=by omega
    rotate_left
    all_goals
     clear hit;go_wp2
     go_roundw
     exact⟨k+1,by omega,by go_num,by rw[HST.o];exact HROW.o,HN.o⟩
     simp[intOf];omega
  .rw[ZQ s k (by omega),Zu s k (by omega),Xy]at hrow
   have hcv:=hrow.conv (cap:=grownCap w s.size 0 5)
   rw[show(lower (tl s)).length=s.size by simp[lower,Za]]at hcv
   clear hrow;go_wp2;go_ret;exact⟨_,rfl,tl_mk _,hnx⟩
end Go.Proofs.YtchkhibgbnhjpabGreatDoor
