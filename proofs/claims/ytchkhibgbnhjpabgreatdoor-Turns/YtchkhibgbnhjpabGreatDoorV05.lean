import Derived.Test.YtchkhibgbnhjpabGreatDoorV04
namespace Go.Proofs.YtchkhibgbnhjpabGreatDoor
open Go.RowKit
def grow(l:List UInt8)(n:Nat)(x:Int×Bool×Bool):Nat×Int×Bool:=
 if x.2.2=true∧n<l.length then
  if(whole (l.take (n+1))).2.1=false∧(whole (l.take (n+1))).2.2=false then(n,x.1,x.2.1)else grow l (n+1) (whole (l.take (n+1)))
 else(n,x.1,x.2.1)
 termination_by l.length-n
 decreasing_by omega
theorem ZpI(l:LB)(n:Nat)(x:Int×Bool×Bool)(h:n≤l.length):n≤(grow l n x).1∧(grow l n x).1≤l.length:=by
 induction n,x using grow.induct (l:=l)with
 | case1 n x h1 h2=>rw[grow,if_pos h1,if_pos h2];exact⟨Nat.le_refl _,h⟩
 | case2 n x h1 h2 ih=>rw[grow,if_pos h1,if_neg h2];have:=ih (by omega);omega
 | case3 n x h1=>rw[grow,if_neg h1];exact⟨Nat.le_refl _,h⟩
def Z1(l:List UInt8):List Int:=
 match l with
 | []=>[]
 | c::r=>(if(grow (c::r) 1 (whole [c])).2.2 then(grow (c::r) 1 (whole [c])).2.1 else 65533)::Z1 (r.drop ((grow (c::r) 1 (whole [c])).1-1))
 termination_by l.length
 decreasing_by simp;omega
theorem ZjJ(l:LB)(m:Nat)(x1:Int)(x2:Bool)(hl:l≠[])(h:grow l 1 (whole (l.take 1))=(m,x1,x2)):Z1 l=(if x2 then x1 else 65533)::Z1 (l.drop m):=by
 match l,hl with
 | c::r,_=>
  have hr:=ZpI (c::r) 1 (whole [c]) (by simp)
  have h':grow (c::r) 1 (whole [c])=(m,x1,x2):=h;rw[h']at hr;rw[Z1,h']
  obtain⟨k,rfl⟩:∃k,m=k+1:=⟨m - 1,by simp only at hr;omega⟩
  rfl
theorem ZaV{l:LB}{m:Nat}{x:Int×Bool×Bool}(h:¬(x.2.2=true∧m<l.length)):grow l m x=(m,x.1,x.2.1):=by rw[grow,if_neg h]
theorem Zb2{l:LB}{m:Nat}{x:Int×Bool×Bool}(h:x.2.2=true)(h1:m<l.length)(h2:(whole (l.take (m+1))).2.1=false)(h3:(whole (l.take (m+1))).2.2=false):grow l m x=(m,x.1,x.2.1):=by rw[grow,if_pos ⟨h,h1⟩,if_pos ⟨h2,h3⟩]
theorem Zew{l:LB}{m:Nat}{x:Int×Bool×Bool}(h:x.2.2=true)(h1:m<l.length)(h2:¬((whole (l.take (m+1))).2.1=false∧(whole (l.take (m+1))).2.2=false)):grow l m x=grow l (m+1) (whole (l.take (m+1))):=by rw[grow,if_pos ⟨h,h1⟩,if_neg h2]
def parts(l:List Int)(t:List UInt8):List (List Int):=
 match l with
 | []=>[[]]
 | c::r=>if Zx c t then []::parts r t else
  match parts r t with
  | []=>[[c]]
  | p::q=>(c::p)::q
theorem ZpJ(l:LI)(t:LB):∃p q,parts l t=p::q:=by
 cases l with
 | nil=>exact⟨[],[],rfl⟩
 | cons c r=>
  rw[parts]
  split
  ·exact⟨_,_,rfl⟩
  ·split<;>exact⟨_,_,rfl⟩
theorem Znu(l:LI)(t:LB):parts l t=if(cut l t).2.2 then(cut l t).1::parts (cut l t).2.1 t else [(cut l t).1]:=by
 induction l with
 | nil=>simp[parts,cut]
 | cons c r ih=>
  cases h:Zx c t
  ·have hc:cut (c::r) t=(c::(cut r t).1,(cut r t).2):=by simp[cut,h]
   rw[parts,if_neg (by simp[h]),hc,ih]
   cases h2:(cut r t).2.2<;>simp
  ·have hc:cut (c::r) t=([],r,true):=by simp[cut,h]
   rw[parts,if_pos h,hc]
   simp
theorem ZrU(l:LI)(t:LB):(cut l t).1.length+(cut l t).2.1.length≤l.length∧((cut l t).2.2=true→(cut l t).2.1.length<l.length):=by
 induction l with
 | nil=>simp[cut]
 | cons c r ih=>
  cases h:Zx c t
  ·have hc:cut (c::r) t=(c::(cut r t).1,(cut r t).2):=by simp[cut,h]
   rw[hc];simp only[List.length_cons]
   exact⟨by omega,fun hh=>by have:=ih.2 hh;omega⟩
  ·have hc:cut (c::r) t=([],r,true):=by simp[cut,h]
   rw[hc]
   simp
theorem ZrV{l:LI}{t:LB}{c:Int}(h:c∈(cut l t).1∨c∈(cut l t).2.1):c∈l:=by
 induction l with
 | nil=>simp[cut]at h
 | cons x r ih=>
  cases hx:Zx x t
  ·have hc:cut (x::r) t=(x::(cut r t).1,(cut r t).2):=by simp[cut,hx]
   rw[hc]at h;simp only[List.mem_cons]at h ⊢;rcases h with(h|h)|h
   ·exact Or.inl h
   ·exact Or.inr (ih (Or.inl h))
   ·exact Or.inr (ih (Or.inr h))
  ·have hc:cut (x::r) t=([],r,true):=by simp[cut,hx]
   rw[hc]at h;simp only[List.not_mem_nil,false_or]at h;exact List.mem_cons_of_mem _ h
def FA(w:World)(vs:List Value)(ps:List (List Int)):Prop:=vs.length=ps.length∧∀i,(h:i<vs.length)→(h':i<ps.length)→ZsZ w vs[i] ps[i]
theorem FA.nil(w:World):FA w [] []:=⟨rfl,fun i h=>by simp at h⟩
theorem FA.on{w w':World}{vs:List Value}{ps:List LI}(h:FA w vs ps)(hb:Nx w w'):FA w' vs ps:=⟨h.1,fun i h1 h2=>(h.2 i h1 h2).on hb⟩
theorem FA.kp{w w':World}{vs:List Value}{ps:List LI}{e:TypeId}(h:FA w vs ps)(hb:Kp e w w')(he:3≠e):FA w' vs ps:=⟨h.1,fun i h1 h2=>(h.2 i h1 h2).kp hb he⟩
def PartsAt(w:World)(v:Value)(ps:List (List Int)):Prop:=∃vs:List Value,SlAt 124 id w v vs∧FA w vs ps
def Znv(l:List Int):Bool:=l.all Znc && !l.isEmpty
def Znw(n c:Int):Int:=if 65535<10*n+c-48 then 65536 else 10*n+c-48
def value(l:List Int):Int:=l.foldl Znw 0
def Zrl(n:Nat):UInt8:=(tl Zus).getD n 0
def ZtR(n:Nat):List UInt8:=if n<16 then [Zrl n]else ZtR (n/16)++[Zrl (n%16)]
 termination_by n
 decreasing_by omega
def ZrW(v:List Int)(i n:Nat):Bool:=((v.drop i).take n).all fun x=>x==0
def listed(l:List Int):List UInt8:=match l with | []=>[]|x::r=>ZtR x.toNat++r.flatMap fun y=>58::ZtR y.toNat
def ZfG(v:List Int)(n i:Nat):List UInt8:=
 if n≤1 then listed v
 else if i+n≤8 then(if ZrW v i n then listed (v.take i)++58::58::listed (v.drop (i+n))else ZfG v n (i+1))
 else ZfG v (n-1) 0
 termination_by (n,9-i)
 decreasing_by all_goals simp_wf<;>omega
def ZtS(v:List Int):List UInt8:=ZfG v 8 0
def ZtT(base v d:Int):Int:=if 1099511627776<v*base+d then 1099511627776 else v*base+d
def vGo(base:Int):Int→List UInt8→Option Int
 | v,[]=>some v
 | v,c::r=>if Zhr c.toNat<0∨base≤Zhr c.toNat then none else vGo base (ZtT base v (Zhr c.toNat)) r
def fin(o:Option Int):Int×Bool:=match o with|none=>(0,false)|some v=>(v,true)
def ZpK(t:List UInt8):Int×Bool:=
 if t=[]then(0,false)else if 1<t.length∧t.take 2=[48,120]then fin (vGo 16 0 (t.drop 2))
 else if 1<t.length∧t.take 1=[48]then fin (vGo 8 0 (t.drop 1))else fin (vGo 10 0 t)
def Zhy(l:List Int):Int×Bool:=ZpK (Zae (Zn l))
def Zui:List UInt8:=[48,49,50,51,52,53,54,55,56,57,65,66,67,68,69,70]
def pct(b:Int):List UInt8:=[37,Zui.getD (b/16).toNat 0,Zui.getD (b%16).toNat 0]
def ZtU(set:List UInt8)(c:Int):List UInt8:=if Zx c set||decide (c<32)||decide (126<c)then(utf c).flatMap pct else(utf c).map toB
def Zca(l:List Int)(set:List UInt8):List UInt8:=l.flatMap (ZtU set)
def Zs3:List ByteArray:=[⟨#[104,116,116,112]⟩,⟨#[104,116,116,112,115]⟩,⟨#[119,115]⟩,⟨#[119,115,115]⟩,⟨#[102,116,112]⟩,⟨#[102,105,108,101]⟩]
def Zs4:List Int:=[80,443,80,443,21,-1]
def Zrm:List ByteArray→List Int→List UInt8→Int×Bool
 | a::r,p::q,s=>if tl a=s then(p,true)else Zrm r q s
 | _,_,_=>(-1,false)
def Znx(s:List UInt8):Int×Bool:=Zrm Zs3 Zs4 s
def Zan(s:List UInt8):Bool:=(Znx s).2
def Zba(s:List UInt8):ByteArray:=if Zan s then⟨#[47,92]⟩else⟨#[47]⟩
def Zdc(l:List Int)(i:Nat)(s:List UInt8):Bool:=match l[i]? with|none=>false|some c=>Zx c (tl (Zba s))
def Zhz(inb:Bool)(i:Nat):List Int→Int
 | []=>-1
 | c::r=>if c=91 then Zhz true (i+1) r else if c=93 then Zhz false (i+1) r else if c=58∧inb=false then(i:Int)else Zhz inb (i+1) r
def ZfH(l:List Int):Int:=Zhz false 0 l
def ZkS(l:List Int):Bool:=match l with | [a,b]=>Zbv a&&(b==58||b==124)|_=>false
def Zs5(s:List UInt8):Bool:=ZkS (Z1 s)&&((Z1 s)[1]?).getD 0==58
def Zuj(special:Bool):ByteArray:=if special then⟨#[32,34,35,60,62,39]⟩else⟨#[32,34,35,60,62]⟩
def ZtV:List (List UInt8×Int):=[([46],1),([46,46],2),([46,37,50,101],2),([37,50,101],1),([37,50,101,46],2),([37,50,101,37,50,101],2)]
def Zrn:List (List UInt8×Int)→List UInt8→Int
 | [],_=>0
 | (a,n)::r,t=>if t=a then n else Zrn r t
def dots(s:List UInt8):Int:=Zrn ZtV (Zae s)
end Go.Proofs.YtchkhibgbnhjpabGreatDoor
