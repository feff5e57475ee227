import Derived.Test.YtchkhibgbnhjpabGreatDoorProg
import Derived.WalkKit
import Derived.WalkSpells
import Derived.WalkLawsBesides
import Derived.Laws.IdiomStrings
import Derived.Laws.BytesArg
import Derived.Lib.UnsafeStr
import Derived.Deep.RegionLaw
import Derived.Deep.RegionHeldLaw
open Array renaming getElem?_eq_some_iff→Xa
open List renaming eq_nil_of_length_eq_zero→Xb,getElem?_eq_getElem→Xd,drop_of_length_le→Xe,length_take→Xf,length_drop→Xg
open UInt8 renaming toNat_ofNat_of_lt'→Xc
namespace Go.Proofs.YtchkhibgbnhjpabGreatDoor
open Go.RowKit
abbrev LB:=List UInt8
abbrev LI:=List Int
abbrev LA:=List ByteArray
abbrev BA:=ByteArray
def tl(s:ByteArray):List UInt8:=s.data.toList
theorem tl_length(s:BA):(tl s).length=s.size:=by unfold tl ByteArray.size;rw[Array.length_toList]
theorem Zft(s:BA)(k:Nat)(h:k<s.size):(tl s)[k]'(by rw[tl_length];exact h)=s[k]:=rfl
theorem ZG(s:BA)(k:Nat)(h:k<s.size):(tl s).take (k+1)=(tl s).take k++[s[k]]:=by rw[List.take_succ_eq_append_getElem (by rw[tl_length];exact h),Zft s k h]
theorem ZU(s:BA)(k:Nat)(h:k<s.size):(tl s).drop k=s[k]::(tl s).drop (k+1):=by rw[List.drop_eq_getElem_cons (by rw[tl_length];exact h),Zft s k h]
theorem Zah(s:BA)(k:Nat)(h:s.size≤k):(tl s).take k=tl s:=List.take_of_length_le (by rw[tl_length];exact h)
theorem Zy(s:BA)(k:Nat)(h:s.size≤k):(tl s).drop k=[]:=Xe (by rw[tl_length];exact h)
theorem tl_mk(l:LB):tl ⟨l.toArray⟩=l:=by simp[tl]
theorem tl_extract(s:BA)(a b:Nat):tl (s.extract a b)=((tl s).take b).drop a:=by unfold tl;rw[ByteArray.data_extract,Array.toList_extract,List.extract_eq_take_drop,List.drop_take]
theorem Za4{s t:BA}(h:tl s=tl t):s=t:=by cases s with|mk a=>cases t with|mk b=>unfold tl at h;congr;exact Array.toList_inj.1 h
theorem Za{p:Prop}(h:p):Hid p:=h
theorem bb(b:UInt8):b.toNat<256:=b.toNat_lt
theorem Zi{a b:Bool}(h:a=b):Ending.returned (.bool a)=.returned (.bool b):=by rw[h]
theorem Zai{k:IntKind}{a b:Int}(h:a=b):Ending.returned (.int k a)=.returned (.int k b):=by rw[h]
def Zx(c:Int)(t:List UInt8):Bool:=t.any fun b=>(b.toNat:Int)==c
theorem among_snoc(c:Int)(t:LB)(b:UInt8):Zx c (t++[b])=(Zx c t||(b.toNat:Int)==c):=by simp[Zx]
theorem Znb(c:Int)(t:BA)(k:Nat)(h:k<t.size)(he:((t[k].toNat:Int)==c)=true):Zx c (tl t)=true:=by unfold Zx;rw[List.any_eq_true];exact⟨t[k],by rw[←Zft t k h];exact List.getElem_mem _,he⟩
def Zbv(c:Int):Bool:=decide ((97≤c∧c≤122)∨(65≤c∧c≤90))
def Znc(c:Int):Bool:=decide (48≤c∧c≤57)
abbrev Nx(w w':World):Prop:=Below w.heap.size w w'
theorem Nx.rfl{w:World}:Nx w w:=Below.refl _ _
theorem Nx.then{a b c:World}(h:Nx a b)(k:Nx b c):Nx a c:=h.trans (k.mono h.size)
def Kp(e:TypeId)(w w':World):Prop:=∀(k:Nat) (cs:Array Value) (t:TypeId) (fz:Nat×Nat),w.heap[k]?=some (Obj.cells cs t fz)→t≠e→w'.heap[k]?=some (Obj.cells cs t fz)
theorem Kp.rfl{e:TypeId}{w:World}:Kp e w w:=fun _ _ _ _ h _=>h
theorem Kp.then{e:TypeId}{a b c:World}(h:Kp e a b)(k:Kp e b c):Kp e a c:=fun i cs t fz hi hn=>k i cs t fz (h i cs t fz hi hn) hn
theorem Nx.kp{e:TypeId}{w w':World}(h:Nx w w'):Kp e w w':=fun k _ _ _ hk _=>(h.block k (Xa.1 hk).1).trans hk
def RowAt{α:Type}(e:TypeId)(f:α→Value)(w:World)(b off:Nat)(l:List α):Prop:=
 ∃(cs:Array Value) (fz:Nat×Nat),w.heap[b]?=some (Obj.cells cs e fz)∧∀i,(h:i<l.length)→cs[off+i]?=some (f l[i])
def SlAt{α:Type}(e:TypeId)(f:α→Value)(w:World)(v:Value)(l:List α):Prop:=
 ∃ao cap,v=.slice ao l.length cap∧l.length≤cap∧cap≤maxLen∧(ao=none→l=[]∧cap=0)∧∀a,ao=some a→∃b off,a=⟨b,off,none⟩∧RowAt e f w b off l
section
variable {α:Type} {e:TypeId} {f:α→Value} {w w':World} {v:Value} {l:List α} {b off:Nat}
theorem RowAt.cell(h:RowAt e f w b off l){i:Nat}(hi:i<l.length):w.cell? ⟨b,off+i,none⟩=some (f l[i]):=by
 obtain⟨cs,fz,hh,hc⟩:=h
 simpa [World.cell?,hh]using hc i hi
theorem RowAt.lt(h:RowAt e f w b off l):b<w.heap.size:=by obtain⟨cs,fz,hh,_⟩:=h;exact(Xa.1 hh).1
theorem RowAt.on(h:RowAt e f w b off l)(hb:Nx w w'):RowAt e f w' b off l:=by obtain⟨cs,fz,hh,hc⟩:=h;exact⟨cs,fz,(hb.block b (Xa.1 hh).1).trans hh,hc⟩
theorem RowAt.kp{e':TypeId}(h:RowAt e f w b off l)(hb:Kp e' w w')(he:e≠e'):RowAt e f w' b off l:=by obtain⟨cs,fz,hh,hc⟩:=h;exact⟨cs,fz,hb b cs e fz hh he,hc⟩
theorem RowAt.below{B:Nat}(h:RowAt e f w b off l)(hb:Below B w w')(hB:b<B):RowAt e f w' b off l:=by obtain⟨cs,fz,hh,hc⟩:=h;exact⟨cs,fz,(hb.block b hB).trans hh,hc⟩
theorem RowAt.take(h:RowAt e f w b off l)(k:Nat):RowAt e f w b off (l.take k):=by
 obtain⟨cs,fz,hh,hc⟩:=h
 refine⟨cs,fz,hh,fun i hi=>?_⟩
 rw[Xf]at hi
 rw[hc i (by omega),List.getElem_take]
theorem RowAt.drop(h:RowAt e f w b off l)(k:Nat):RowAt e f w b (off+k) (l.drop k):=by
 obtain⟨cs,fz,hh,hc⟩:=h
 refine⟨cs,fz,hh,fun i hi=>?_⟩
 rw[Xg]at hi
 rw[Nat.add_assoc,hc (k+i) (by omega),List.getElem_drop]
theorem SlAt.on(h:SlAt e f w v l)(hb:Nx w w'):SlAt e f w' v l:=by
 obtain⟨ao,cap,rfl,hlc,hcap,hnone,hsome⟩:=h
 refine⟨ao,cap,rfl,hlc,hcap,hnone,fun a ha=>?_⟩
 obtain⟨b,off,rfl,hr⟩:=hsome a ha;exact⟨b,off,rfl,hr.on hb⟩
theorem SlAt.kp{e':TypeId}(h:SlAt e f w v l)(hb:Kp e' w w')(he:e≠e'):SlAt e f w' v l:=by
 obtain⟨ao,cap,rfl,hlc,hcap,hnone,hsome⟩:=h
 refine⟨ao,cap,rfl,hlc,hcap,hnone,fun a ha=>?_⟩
 obtain⟨b,off,rfl,hr⟩:=hsome a ha;exact⟨b,off,rfl,hr.kp hb he⟩
theorem SlAt.nil(w:World):SlAt e f w (.slice none 0 0) []:=⟨none,0,rfl,by simp,Nat.zero_le _,fun _=>⟨rfl,rfl⟩,nofun⟩
theorem SlAt.len(h:SlAt e f w v l):l.length≤maxLen:=by obtain⟨ao,cap,rfl,hlc,hcap,_⟩:=h;exact Nat.le_trans hlc hcap
theorem ZrK{cap:Nat}(hr:RowAt e f w b off l)(hlc:l.length≤cap)(hcap:cap≤maxLen):SlAt e f w (.slice (some ⟨b,off,none⟩) l.length cap) l:=
 ⟨_,_,rfl,hlc,hcap,nofun,fun _ ha=>⟨b,off,(Option.some.inj ha).symm,hr⟩⟩
theorem Znd{cap:Nat}(hr:RowAt e f w b off l)(hlc:l.length≤cap)(hcap:cap≤maxLen)(k:Nat)(hk:k≤l.length):SlAt e f w (.slice (some ⟨b,off,none⟩) k cap) (l.take k):=by
 have hl:(l.take k).length=k:=by rw[Xf];omega
 have:=ZrK (cap:=cap) (hr.take k) (by omega) hcap
 rwa [hl]at this
theorem ZtM{cap:Nat}(hr:RowAt e f w b off l)(hlc:l.length≤cap)(hcap:cap≤maxLen)(k:Nat)(hk:k≤l.length):SlAt e f w (.slice (some ⟨b,off+k,none⟩) (l.length-k) (cap-k)) (l.drop k):=by
 have hl:(l.drop k).length=l.length-k:=Xg
 have:=ZrK (cap:=cap-k) (hr.drop k) (by omega) (by omega)
 rwa [hl]at this
theorem Zug(hr:RowAt e f w b off l)(k c:Nat)(hk:l.length≤k)(hc:c≤maxLen):SlAt e f w (.slice (some ⟨b,off,none⟩) (l.length-k) c) (l.drop k):=by
 have hl:l.drop k=[]:=Xe hk;obtain⟨cs,fz,hh,_⟩:=hr
 rw[hl,show l.length-k=0 by omega]
 exact⟨some ⟨b,off,none⟩,c,rfl,by simp,hc,nofun,fun _ ha=>⟨b,off,(Option.some.inj ha).symm,cs,fz,hh,fun i h=>by simp at h⟩⟩
theorem Zbm{ao:Option Addr}{cap:Nat}{k:Nat}(hk:k<l.length)(hnone:ao=none→l=[]∧cap=0):∃a,ao=some a:=by
 cases ao with
 | none=>have:=(hnone rfl).1;subst this;simp at hk
 | some a=>exact⟨a,rfl⟩
theorem SlAt.open_{k:Nat}(h:SlAt e f w v l)(hk:k<l.length):∃b off cap,v=.slice (some ⟨b,off,none⟩) l.length cap∧l.length≤cap∧cap≤maxLen∧RowAt e f w b off l:=by obtain⟨ao,cap,rfl,hlc,hcap,hnone,hsome⟩:=h;obtain⟨a,rfl⟩:=Zbm hk hnone;obtain⟨b,off,rfl,hr⟩:=hsome a rfl;exact⟨b,off,cap,rfl,hlc,hcap,hr⟩
end
abbrev ZsZ(w:World)(v:Value)(l:List Int):Prop:=SlAt 3 (Value.int .i64) w v l
abbrev ZbU(w:World)(v:Value)(l:List ByteArray):Prop:=SlAt 9 Value.string w v l
def cut(l:List Int)(t:List UInt8):List Int×List Int×Bool:=
 match l with
 | []=>([],[],false)
 | c::r=>if Zx c t then([],r,true)else(c::(cut r t).1,(cut r t).2)
theorem Zne:(Tryz.prog.info? 5).map (fun i=>(i.zero,i.size,i.bytes))=some (some (.int .u8 0),1,1):=by kernel_rfl
theorem Znf:(Tryz.prog.info? 9).map (fun i=>(i.zero,i.size,i.bytes))=some (some (.string ByteArray.empty),1,16):=by kernel_rfl
theorem Zhp{w w':World}{base:Nat}{e:TypeId}{size:Nat}{v:Value}{n:Nat}{xs:List Value}(hown:w.ownsRow base e size v n xs)(hg:w.grownBy w' v.ownBlock):Kp e w w':=by
 intro k cs t fz hk ht
 refine(hg.block k (Xa.1 hk).1 fun hv=>?_).trans hk
 obtain⟨h1,⟨rfl,h3⟩|⟨g,cap,cur,rfl,h4,h5,h6⟩⟩:=hown
 ·cases hv
 ·simp only[Value.ownBlock,Option.some.injEq]at hv
  subst hv;rw[hk]at h5;simp only[Option.some.injEq,Obj.cells.injEq]at h5;exact ht h5.2.1
theorem Kp.alloc{e:TypeId}{a w:World}(h:Kp e a w)(o:Obj):Kp e a (w.alloc o):=h.then (Nx.kp ((Below.refl _ _).alloc (Nat.le_refl _) o))
theorem ZjB{ops:Array Oper}{rest:List Oper}{o:Oper}{a:Act}{Q:Exit→Act→World→Prop}(w:World)(t e:TypeId)(z:Value)(bytes:Nat)
  (ht:Tryz.prog.underlying t=some (.slice e)) (hinfo:(Tryz.prog.info? e).map (fun i=>(i.zero,i.size,i.bytes))=some (some z,1,bytes)) (hzs:z.cells.size=1)
  (hgd:o.guard=none) (s x:Operand) (ho:o.op=.call { callee:=.builtin .append,args:=#[s,x],argTypes:=#[t,t] })
  (base:Nat) (v:Value) (n:Nat) (xs:List Value) (hs:a.eval s=v) (hown:w.ownsRow base e 1 v n xs)
  (ad:Addr) (m c:Nat) (news:List Value) (hx:a.eval x=.slice (some ad) m c) (hl:news.length=m) (hnews:∀j u,news[j]?=some u→w.cell? (ad.add j)=some u) (h1:∀u∈news,u.oneCell'=true)
  (hn:n+m≤1099511627776) (hby:bytes≤32) (hbase:base≤w.heap.size)
  (h:∀v' w',w'.ownsRow base e 1 v' (n+m) (xs++news)→Below base w w'→Kp e w w'→wpList Tryz.prog ops Q rest (a.put o.dst v') w'):wpList Tryz.prog ops Q (o::rest) a w:=by
 obtain⟨i,hi,hz0,hz1,hz2⟩:=info_parts hinfo
 refine wpList_append_own w hgd s x t ho base e i z 1 bytes ht hi hz0 hz1 hz2 hzs (by decide) v n xs hs hown ad m c news hx (by omega) hnews h1 (by unfold maxLen;omega) ?_ hbase ?_
 ·calc (n+m)*bytes≤1099511627776*32:=Nat.mul_le_mul hn hby
   _≤140737488355328:=by decide
 ·intro v' w' h2 h3 _
  exact h v' w' h2 ((Below.refl base w).grown h3 hbase (fun k hk=>(hown.lt k hk).1)) (Zhp hown h3)
theorem ZkM{w:World}{b off:Nat}{u:Value}(h:w.cell? ⟨b,off,none⟩=some u):∀(j:Nat) (x:Value),[u][j]?=some x→w.cell? ((⟨b,off,none⟩:Addr).add j)=some x:=by
 intro j x hx
 match j,hx with
 | 0,hx=>simp at hx;subst hx;rw[Addr.add_lit];exact h
abbrev Zhq(w:World)(base:Nat)(v:Value)(l:List UInt8):Prop:=w.ownsRow base 5 1 v l.length (Lib.byteCells l)
theorem ZpB{ops:Array Oper}{rest:List Oper}{o:Oper}{a:Act}{Q:Exit→Act→World→Prop}(w:World)
  (hgd:o.guard=none) (s x:Operand) (ho:o.op=.call { callee:=.builtin .append,args:=#[s,x],argTypes:=#[160,160] })
  (base:Nat) (v:Value) (l:LB) (hs:a.eval s=v) (hown:Zhq w base v l)
  (ab ao c:Nat) (y:Int) (hx:a.eval x=.slice (some ⟨ab,ao,none⟩) 1 c) (hcell:w.cell? ⟨ab,ao,none⟩=some (.int .u8 y)) (hy0:0≤y) (hy1:y≤255)
  (hn:l.length<1099511627776) (hbase:base≤w.heap.size)
  (h:∀v' w',Zhq w' base v' (l++[UInt8.ofNat y.toNat])→Below base w w'→Kp 5 w w'→wpList Tryz.prog ops Q rest (a.put o.dst v') w'):wpList Tryz.prog ops Q (o::rest) a w:=by
 refine ZjB w _ _ (.int .u8 0) 1 Tryz.underlying160 Zne rfl hgd s x ho base v l.length _ hs hown ⟨ab,ao,none⟩ 1 c [.int .u8 y] hx rfl (ZkM hcell) (by simp[Value.oneCell']) (by omega) (by decide) hbase ?_
 intro v' w' h2 h3 h4
 refine h v' w' ?_ h3 h4
 have e:((UInt8.ofNat y.toNat).toNat:Int)=y:=by rw[Xc (by show y.toNat<256;omega)];omega
 have e2:Lib.byteCells [UInt8.ofNat y.toNat]=[.int .u8 y]:=by simp only[Lib.byteCells,List.map_cons,List.map_nil,e]
 unfold Zhq;rw[List.length_append,Lib.byteCells_append,e2];exact h2
theorem Zbn{ops:Array Oper}{rest:List Oper}{o:Oper}{a:Act}{Q:Exit→Act→World→Prop}(w:World)(y:Int)
  (hgd:o.guard=none) (s x:Operand) (ho:o.op=.call { callee:=.builtin .append,args:=#[s,x],argTypes:=#[160,160] })
  (base:Nat) (v:Value) (l:LB) (hs:a.eval s=v) (hown:Zhq w base v l) (hx:a.eval x=.slice (some ⟨w.heap.size,0,none⟩) 1 1) (hy0:0≤y) (hy1:y≤255)
  (hn:l.length<1099511627776) (hbase:base≤w.heap.size)
  (h:∀v' w',Zhq w' base v' (l++[UInt8.ofNat y.toNat])→Below base w w'→Kp 5 w w'→wpList Tryz.prog ops Q rest (a.put o.dst v') w'):
  wpList Tryz.prog ops Q (o::rest) a (w.alloc (.cells #[.int .u8 y] 5)):=
 ZpB _ hgd s x ho base v l hs (World.ownsRow.alloc hown _) w.heap.size 0 1 y hx (by simp) hy0 hy1 hn (by simp;omega)
  fun v' w' h1 h2 h3=>h v' w' h1 (((Below.refl base w).alloc hbase _).trans h2) ((Kp.rfl.alloc _).then h3)
theorem ZjC{w:World}{b off:Nat}{x y z:Value}(h0:w.cell? ⟨b,off,none⟩=some x)(h1:w.cell? ⟨b,off+1,none⟩=some y)(h2:w.cell? ⟨b,off+2,none⟩=some z):∀(j:Nat) (u:Value),[x,y,z][j]?=some u→w.cell? ((⟨b,off,none⟩:Addr).add j)=some u:=by
 intro j u hu;rw[Addr.add_lit]
 match j,hu with
 | 0,hu=>simp at hu;subst hu;exact h0
 | 1,hu=>simp at hu;subst hu;exact h1
 | 2,hu=>simp at hu;subst hu;exact h2
theorem Za5{α:Type}{e:TypeId}{f:α→Value}{w:World}{base:Nat}{v:Value}{l:List α}(h:w.ownsRow base e 1 v l.length (l.map f)):SlAt e f w v l:=by
 obtain⟨h1,⟨rfl,h3⟩|⟨g,cap,cur,rfl,h4,h5,h6,h7,h8,h9⟩⟩:=h
 ·have:l=[]:=Xb h3
  subst this;exact SlAt.nil w
 ·refine ZrK ⟨cur,_,h5,fun i hi=>?_⟩ h6 h7
  have:=congrArg (fun q:List Value=>q[i]?) h9
  simpa [List.getElem?_take,hi,Xd hi]using this
theorem Zdy{w:World}{base:Nat}{v:Value}{l:LB}(h:Zhq w base v l):(convert 160 9 v).run Tryz.prog w=.ok (.string ⟨l.toArray⟩) w:=by
 have h0:=h;obtain⟨h1,⟨rfl,h3⟩|⟨g,cap,cur,rfl,h4,h5,h6,h7,h8,h9⟩⟩:=h
 ·have:l=[]:=Xb h3
  subst this;exact run_convert_bytes_nil w _ _ Tryz.underlying160 Tryz.underlying5 0 0 _ Tryz.underlying9
 ·refine run_convert_bytes_back w _ _ _ ⟨g,0,none⟩ cap l Tryz.underlying160 Tryz.underlying5 Tryz.underlying9 fun j hj=>?_
  exact h0.cells rfl j _ (by simp[Lib.byteCells,Xd hj])
theorem Zg{n:Nat}(h:n≤1000000):n≤maxLen:=by unfold maxLen;omega
def utf(c:Int):List Int:=
 if c<128 then [c]else if c<2048 then [192+c/64,128+c%64]
 else if c<65536 then [224+c/4096,128+c/64%64,128+c%64]else [240+c/262144,128+c/4096%64,128+c/64%64,128+c%64]
def Pt(c:Int):Prop:=0≤c∧c≤1114111
theorem ZpC{c x:Int}(hc:Pt c)(hx:x∈utf c):0≤x∧x≤255:=by
 unfold Pt at hc;unfold utf at hx
 split at hx
 ·simp at hx;omega
 ·split at hx
  ·simp at hx;omega
  ·split at hx<;>(simp at hx;omega)
theorem ZrL(c:Int):1≤(utf c).length:=by unfold utf;repeat (first|split|simp)
theorem Nx.alloc{a w:World}(h:Nx a w)(o:Obj):Nx a (w.alloc o):=Below.alloc h h.size o
theorem Nx.drew{a w:World}(h:Nx a w):Nx a w.drew:=Below.drew h
def Zuh(l:List Int):List Int:=l.filter fun c=>!Zx c [9,10,13]
theorem Zng{w w':World}{base:Nat}{e:TypeId}{size:Nat}{v:Value}{n:Nat}{xs:List Value}(h:w.ownsRow base e size v n xs)(hb:Nx w w'):w'.ownsRow base e size v n xs:=by
 obtain⟨h1,h2⟩:=h
 refine⟨h1,?_⟩
 rcases h2 with h2|⟨g,cap,cur,hv,hg,hh,r⟩
 ·exact Or.inl h2
 ·exact Or.inr ⟨g,cap,cur,hv,hg,(hb.block g (Xa.1 hh).1).trans hh,r⟩
def toB(n:Int):UInt8:=UInt8.ofNat n.toNat
def Zn(l:List Int):List UInt8:=l.flatMap fun c=>(utf c).map toB
theorem bytesOf_snoc(l:LI)(c:Int):Zn (l++[c])=Zn l++(utf c).map toB:=by simp[Zn]
def Zhr(c:Int):Int:=if 48≤c∧c≤57 then c-48 else if 97≤c∧c≤102 then c-87 else if 65≤c∧c≤70 then c-55 else -1
abbrev Zus:ByteArray:=⟨#[48,49,50,51,52,53,54,55,56,57,97,98,99,100,101,102]⟩
def ZtN(l:List Int):List Int:=l.dropWhile fun c=>decide (c≤32)
def ZtO(l:List Int):List Int:=(l.reverse.dropWhile fun c=>decide (c≤32)).reverse
def ZrM(l:List Int):List Int:=ZtO (ZtN l)
theorem Zfu{y:Int}(h0:0≤y)(h1:y≤255):((toB y).toNat:Int)=y:=by unfold toB;rw[Xc (by show y.toNat<256;omega)];omega
theorem ZrN{a b:BA}(h:a=b):Ending.returned (.string a)=.returned (.string b):=by rw[h]
def dec(n:Nat):List UInt8:=if 9<n then dec (n/10)++[UInt8.ofNat (48+n%10)]else [UInt8.ofNat (48+n)]
 termination_by n
 decreasing_by omega
def Zet:List UInt8→List UInt8
 | []=>[]
 | c::r=>
  match r with
  | x::y::q=>if c=37∧0≤Zhr x.toNat∧0≤Zhr y.toNat then toB (16*Zhr x.toNat+Zhr y.toNat)::Zet q else c::Zet (x::y::q)
  | [x]=>c::Zet [x]
  | []=>[c]
 termination_by l=>l.length
 decreasing_by all_goals simp_wf<;>omega
theorem Zz{s:BA}(h:s.size=0):tl s=[]:=Xb (by rw[tl_length];exact h)
theorem ZaE(s:BA)(k:Nat):tl (s.extract k s.size)=(tl s).drop k:=by rw[tl_extract,Zah s s.size (Nat.le_refl _)]
theorem Zih(s:BA)(k:Nat):tl (s.extract 0 k)=(tl s).take k:=by rw[tl_extract,List.drop_zero]
def Zik(b:UInt8):UInt8:=if 65≤b.toNat∧b.toNat≤90 then b+32 else b
def Zae(l:List UInt8):List UInt8:=l.map Zik
theorem ZkN{b:UInt8}(h0:65≤b.toNat)(h1:b.toNat≤90):((Zik b).toNat:Int)=(b.toNat:Int)+32:=by unfold Zik;rw[if_pos ⟨h0,h1⟩,UInt8.toNat_add];show(((b.toNat+32)%256:Nat):Int)=_;omega
theorem Zc9{b:UInt8}(h:¬(65≤b.toNat∧b.toNat≤90)):Zik b=b:=by unfold Zik;rw[if_neg h]
def RowB(w:World)(b:Nat)(l:List UInt8):Prop:=
 ∃(cs:Array Value) (n:Nat),w.heap[b]?=some (Obj.cells cs 5 (n,n+1))∧l.length≤n∧∀i,(h:i<l.length)→cs[i]?=some (.int .u8 (l[i].toNat:Int))
theorem RowB.cell{w:World}{b:Nat}{l:LB}(h:RowB w b l){i:Nat}(hi:i<l.length):w.cell? ⟨b,i,none⟩=some (.int .u8 (l[i].toNat:Int)):=by
 obtain⟨cs,n,hh,_,hc⟩:=h
 simpa [World.cell?,hh]using hc i hi
theorem RowB.free{w:World}{b:Nat}{l:LB}(h:RowB w b l){i:Nat}(hi:i<l.length):w.frozen? ⟨b,i,none⟩=false:=by
 obtain⟨cs,n,hh,hn,hc⟩:=h
 simp[World.frozen?,hh]
 omega
theorem RowB.conv{w:World}{b cap:Nat}{l:LB}(h:RowB w b l):(convert 160 9 (.slice (some ⟨b,0,none⟩) l.length cap)).run Tryz.prog w=.ok (.string ⟨l.toArray⟩) w:=by
 refine run_convert_bytes_back w _ _ _ ⟨b,0,none⟩ cap l Tryz.underlying160 Tryz.underlying5 Tryz.underlying9 fun j hj=>?_
 rw[Addr.add_lit,Nat.zero_add];exact h.cell hj
theorem RowB.set{w:World}{b:Nat}{l:LB}(h:RowB w b l){i:Nat}(hi:i<l.length)(x:UInt8):RowB (w.setCell ⟨b,i,none⟩ (.int .u8 (x.toNat:Int))) b (l.set i x):=by
 obtain⟨cs,n,hh,hn,hc⟩:=h
 refine⟨cs.setIfInBounds i (.int .u8 (x.toNat:Int)),n,?_,by simpa using hn,fun j hj=>?_⟩
 ·simp only[World.setCell,Array.getElem?_modify,if_pos,hh]
  rfl
 ·have hj':j<l.length:=by simpa using hj
  rw[Array.getElem?_setIfInBounds];have hi':i<cs.size:=(Xa.1 (hc i hi)).1
  by_cases e:i=j
  ·subst e
   simp[hi']
  ·rw[if_neg e,hc j hj',List.getElem_set_ne e]
def room(size k:Int):Int×Int:=
 if size=2 then(128,2047)else if size=3∧k=0 then(2048,55295)else if size=3 then(57344,65535)else(65536,1114111)
def Zc5(c:Int):Int×Int:=
 if 192≤c∧c<224 then(2,c-192)else if 224≤c∧c<240 then(3,c-224)else if 240≤c∧c<248 then(4,c-240)else(0,0)
def ZdZ(v:Int)(l:List UInt8):Int:=l.foldl (fun v b=>64*v+(b.toNat:Int)-128) v
def Zfa(b:UInt8):Bool:=decide (128≤(b.toNat:Int))&&decide ((b.toNat:Int)≤191)
def wtest(size lo hi k:Int):Bool:=decide (lo≤(room size k).2)&&decide ((room size k).1≤hi)
def wok(size lo hi:Int):Bool:=decide (1<size)&&(wtest size lo hi 0||wtest size lo hi 1)
def whole(t:List UInt8):Int×Bool×Bool:=
 match t with
 | []=>(0,false,false)
 | b::r=>
  if r=[]∧(b.toNat:Int)<128 then((b.toNat:Int),true,false)
  else if(Zc5 b.toNat).1<(r.length:Int)+1 then(0,false,false)
  else if r.all Zfa=false then(0,false,false)
  else
   let v:=ZdZ (Zc5 b.toNat).2 r
   let j:=((Zc5 b.toNat).1-((r.length:Int)+1)).toNat
   let ok:=wok (Zc5 b.toNat).1 (v*64^j) (v*64^j+64^j-1)
   (v,ok&&((r.length:Int)+1==(Zc5 b.toNat).1),ok&&decide ((r.length:Int)+1<(Zc5 b.toNat).1))
end Go.Proofs.YtchkhibgbnhjpabGreatDoor
