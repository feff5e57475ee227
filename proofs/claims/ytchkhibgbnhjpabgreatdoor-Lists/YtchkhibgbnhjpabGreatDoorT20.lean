import Derived.Test.YtchkhibgbnhjpabGreatDoorT18
import Derived.Test.YtchkhibgbnhjpabGreatDoorT19
open List renaming mem_of_getElem?→Xa,getElem?_eq_getElem→Xb
open Nat renaming zero_le→Xc,le_refl→Xd,zero_add→Xf
open Go.Value renaming string→J,bool→C,int→I
open Go.IntKind renaming i64→X
open Go.Ending renaming returned→Y
open Go.Obj renaming cells→O
namespace Go.Proofs.YtchkhibgbnhjpabGreatDoor
open Tryz
open Go.RowKit
set_option maxHeartbeats 8000000
set_option maxRecDepth 8000
variable [Fl]
set_option linter.all false
structure Op6 where
 k:Int
 a:Int
 b:Int
 c:Int
 s:ByteArray
 t:ByteArray
def Op6.v(o:Op6):Array Value:=#[I X o.k,I X o.a,I X o.b,I X o.c,J o.s,J o.t]
structure Op6.Ok (o:Op6):Prop where
 a0:-9223372036854775808<=o.a
 a1:o.a<=9223372036854775807
 b0:-9223372036854775808<=o.b
 b1:o.b<=9223372036854775807
 s:o.s.size<=maxLen
 t:o.t.size<=maxLen
def OpsAt(w:World)(v:Value)(l:List Op6):Prop:=∃ao cap,v=.slice ao l.length cap/\l.length<=cap/\cap<=maxLen/\∀(i:Nat) (o:Op6),l[i]?=some o->∃b off,ao=some ⟨b,off,none⟩/\∀(j:Nat) (x:Value),o.v[j]?=some x->w.cell? ⟨b,off+i*6+j,none⟩=some x
theorem OpsAt.on{w w':World}{v:Value}{l:List Op6}(h:OpsAt w v l)(hn:Nx w w'):OpsAt w' v l:=by
 obtain⟨ao,cap,h1,h2,h3,h4⟩:=h
 refine⟨ao,cap,h1,h2,h3,fun i o ho=>?_⟩
 obtain⟨b,off,e,hc⟩:=h4 i o ho
 exact⟨b,off,e,fun j x hx=>(World.cell?_of_block (hn.block b (World.block_lt_of_cell? w _ (hc j x hx)))).trans (hc j x hx)⟩
theorem OpsAt.get{w:World}{ao:Option Addr}{n cap:Nat}{l:List Op6}(h:OpsAt w (.slice ao n cap) l){i:Nat}{o:Op6}(ho:l[i]?=some o):∃b off,ao=some ⟨b,off,none⟩/\w.cell? ⟨b,off+i*6,none⟩=some (I X o.k)/\w.cell? ⟨b,off+i*6+1,none⟩=some (I X o.a)/\w.cell? ⟨b,off+i*6+2,none⟩=some (I X o.b)/\w.cell? ⟨b,off+i*6+3,none⟩=some (I X o.c)/\w.cell? ⟨b,off+i*6+4,none⟩=some (J o.s)/\w.cell? ⟨b,off+i*6+5,none⟩=some (J o.t):=by
 obtain⟨ao',cap',he,-,-,h4⟩:=h
 cases he
 obtain⟨b,off,e,hc⟩:=h4 i o ho;exact⟨b,off,e,hc 0 _ rfl,hc 1 _ rfl,hc 2 _ rfl,hc 3 _ rfl,hc 4 _ rfl,hc 5 _ rfl⟩
theorem ZI1(v:Value)(l:List Op6)(w:World)(h:OpsAt w v l)(hl:∀o∈l,o.Ok):Calls prog 65 #[v] w fun e w'=>∃r:Bool,e=Y (C r)/\(r=true->l.length<=65536)/\Nx w w':=by
 have H:=A h;have HL:=A hl;obtain⟨ao,cap,rfl,h1,h2,-⟩:=id h;unfold maxLen at h2;clear h hl
 by_cases hbig:65536<l.length
 .have hd:decide ((65536:Int)<(l.length:Int))=true:=decide_eq_true (by omega)
  go_enter func65,ntmps65
  go_wp2;go_ret
  exact⟨false,rfl,(fun g=>by cases g),Nx.rfl⟩
 .have hd:decide ((65536:Int)<(l.length:Int))=false:=decide_eq_false (by omega)
  go_enter func65,ntmps65
  go_wp2
  go_loopw [3,4] (fun x i wr=>∃(k:Nat) (y:Int),k<=l.length/\i=I X k/\x=I X y/\Nx w wr) (fun _ i _=>l.length-(intOf i).toNat)
  case atStart=>exact⟨0,_,Xc _,rfl,rfl,Nx.rfl⟩
  case round=>
   obtain⟨k,y,hk,rfl,rfl,hnx⟩:=hrel;have HN:=A hnx
   by_cases hlt:k<l.length
   .obtain⟨o,ho⟩:∃o,l[k]?=some o:=⟨_,Xb hlt⟩
    obtain⟨b,off,e,c0,c1,c2,c3,c4,c5⟩:=(H.o.on hnx).get ho;subst e;have hss:=(HL.o o (Xa ho)).s;have htt:=(HL.o o (Xa ho)).t;clear hnx c0 c1 c2 c3 ho;go_upto_region 7 with fail
    go_cut [3]from 16 to 32 (fun x wx=>(∃z:Int,x=I X z)/\Nx wr wx)
    case first=>
     go_region
     all_goals go_wp2_with fail
     all_goals go_meet
     all_goals first|exact⟨⟨_,rfl⟩,Nx.rfl.drew⟩|exact⟨⟨_,rfl⟩,Nx.rfl⟩
    obtain⟨⟨z,hz⟩,hnn⟩:=hcut;subst hz;have HN2:=A (HN.o.then hnn);clear hnn c4 c5
    cases hz2:decide ((65536:Int)<z)
    .go_wp2
     go_roundw
     exact⟨k+1,z,by omega,by go_num,rfl,HN2.o⟩
     simp[intOf];omega
    .go_wp2
     go_ret
     exact⟨false,rfl,(fun g=>by cases g),HN2.o⟩
   .go_wp2
    go_ret
    exact⟨true,rfl,fun _=>by omega,HN.o⟩
theorem Inv.start{w:World}(ht:Tb w)(ha:∀k,Fl.ok k):Inv w 0 (w.alloc (O #[C false,.slice none 0 0,.slice none 0 0,.slice none 0 0] 43)) w.heap.size false (.slice none 0 0) (.slice none 0 0) (.slice none 0 0) (fun k=>if k<w.heap.size then(4,0)else(0,0)) ⟨[],[],[]⟩:=by
 have l2:=World.block_lt_of_cell? w _ ht.2.1;have l2':(2:Nat)<w.heap.size:=l2
 refine⟨heap_alloc_new w _,World.ownsRow_nil _ _ _ _,World.ownsRow_nil _ _ _ _,World.ownsRow_nil _ _ _ _,?_,(fun i e he=>by cases he),(fun i e he=>by cases he),(fun i e he=>by cases he),ht.on (Nx.rfl.alloc _),ha,Nx.rfl.alloc _,fun k hk=>ifP hk,l2',Xd _,Xd _,Xd _⟩
 rintro k (rfl|hk|hk|hk)
 .exact ifN (by omega)
 all_goals cases hk
theorem ZKN(v:Value)(l:List Op6)(w:World)(h:OpsAt w v l)(hl:∀o∈l,o.Ok/\o.k≠2/\o.k≠3)(hn:l.length<=65536)(ht:Tb w)(ha:∀k,Fl.ok k):Calls prog 66 #[v] w fun e w'=>e=Y (I X (-1))/\Nx w w':=by
 have H:=A h;have HL:=A hl;have HST:=A (Inv.start ht ha);obtain⟨ao,cap,rfl,h1,h2,-⟩:=id h;unfold maxLen at h2;clear h hl ht ha
 go_enter func66,ntmps66
 go_upto_region 2 with fail;generalize w.alloc (O #[C false,.slice none 0 0,.slice none 0 0,.slice none 0 0] 43)=w1 at *;generalize w.heap.size=wb at *;go_wp2
 go_loopw [4] (fun i wr=>∃k:Nat,k<=l.length/\i=I X k/\ZHO w wr wb k) (fun i _=>l.length-(intOf i).toNat)
 case atStart=>exact⟨0,Xc _,rfl,_,_,_,_,_,_,HST.o⟩
 case round=>
  obtain⟨k,hk,rfl,q,us,ps,ts,own,S,hi⟩:=hrel;have HI:=A hi;have HN:=A hi.nx;clear hi
  by_cases hlt:k<l.length
  .obtain⟨o,ho⟩:∃o,l[k]?=some o:=⟨_,Xb hlt⟩
   obtain⟨b,off,e,c0,c1,c2,c3,c4,c5⟩:=(H.o.on HN.o).get ho;subst e;obtain⟨hok,hk2,hk3⟩:=HL.o o (Xa ho)
   have HS:=A (ZKM w k wb q us ps ts own S o.k o.a o.b o.c o.s o.t wr HI.o (by omega) hok.a0 hok.a1 hok.b0 hok.b1 hok.s hok.t hk2 hk3)
   clear hok hk2 hk3 ho;go_wp2_with fail
   refine HS.o.mono ?_
   rintro e w2 ⟨rfl,q',us',ps',ts',own',S',hi2⟩;have HI2:=A hi2;clear hi2 HS c0 c1 c2 c3 c4 c5;go_wp2_with fail
   refine(ZI0 w (k+1) wb q' us' ps' ts' own' S' w2 HI2.o (by omega)).mono ?_
   rintro e w3 ⟨rfl,hn3⟩;have HI3:=A (HI2.o.on hn3);clear hn3;obtain⟨q0,q1,q2,q3,hwl⟩:=HI3.o.wbk.facts
   cases q'
   .go_wp2_with fail
    refine(ZMe w (k+1) wb false us' ps' ts' own' S' w3 HI3.o (by omega)).mono ?_
    rintro e w4 ⟨rfl,hn4⟩;have HI4:=A (HI3.o.on hn4);clear hn4 q0 q1 q2 q3 hwl;go_wp2
    go_roundw
    exact⟨k+1,by omega,by go_num,_,_,_,_,_,_,HI4.o⟩
    simp[intOf];omega
   .go_wp2
    go_roundw
    exact⟨k+1,by omega,by go_num,_,_,_,_,_,_,HI3.o⟩
    simp[intOf];omega
  .go_wp2
   go_ret;exact⟨rfl,HN.o⟩
theorem ZNu:(prog.info? 45).map (fun i=>(i.zero,i.size,i.bytes))=some (some (.agg #[I X 0,I X 0,I X 0,I X 0,J ByteArray.empty,J ByteArray.empty]),6,64):=by kernel_rfl
abbrev OwnO(w:World)(base:Nat)(v:Value)(l:List Op6):Prop:=w.ownsRow base 45 6 v l.length (l.flatMap fun o=>o.v.toList)
theorem ZNv{ops:Array Oper}{rest:List Oper}{o:Oper}{a:Act}{Q:Exit->Act->World->Prop}(w:World)(p:Op6)
  (hgd:o.guard=none) (s x:Operand) (ho:o.op=.call { callee:=.builtin .append,args:=#[s,x],argTypes:=#[57,57] })
  (base:Nat) (v:Value) (l:List Op6) (hs:a.eval s=v) (hown:OwnO w base v l) (hx:a.eval x=.slice (some ⟨w.heap.size,0,none⟩) 1 1) (hn:l.length<=65536) (hbase:base<=w.heap.size)
  (h:∀v' w',OwnO w' base v' (l++[p])->Below base w w'->wpList prog ops Q rest (a.put o.dst v') w'):
  wpList prog ops Q (o::rest) a (w.alloc (.cells p.v 45)):=by
 obtain⟨i,hi,hz0,hz1,hz2⟩:=info_parts ZNu
 refine wpList_append_own (w.alloc (.cells p.v 45)) hgd s x 57 ho base 45 i _ 6 64 underlying57 hi hz0 hz1 hz2 rfl (by decide) v l.length _ hs (World.ownsRow.alloc hown _) ⟨w.heap.size,0,none⟩ 1 1 p.v.toList hx rfl (fun j u hu=>?_) (by simp[Op6.v,Value.oneCell']) (by unfold maxLen;omega) (by omega) (by simp;omega) ?_
 .rw[Addr.add_lit]
  have hb:=heap_alloc_new w (.cells p.v 45);simp only[World.cell?,hb,Option.bind_some,Xf];rw[<-hu]
  simp
 .intro v' w' q1 q2 q3
  refine h v' w' ?_ (((Below.refl base w).alloc hbase _).trans ((Below.refl base _).grown q2 (by simp;omega) (fun k hk=>(hown.lt k hk).1)))
  unfold OwnO;rw[List.length_append,List.flatMap_append,List.flatMap_singleton];exact q1
theorem ZNF(l:List Op6){i:Nat}{o:Op6}(h:l[i]?=some o)(j:Nat)(hj:j<6):(l.flatMap fun o=>o.v.toList)[i*6+j]?=o.v[j]?:=by
 induction l generalizing i with
 | nil=>cases h
 | cons a r ih=>
  rw[List.flatMap_cons];have ha:a.v.toList.length=6:=rfl
  cases i with
  | zero=>
   cases h
   rw[List.getElem?_append_left (by omega)]
   simp
  | succ i=>
   rw[List.getElem?_append_right (by omega),ha,show(i+1)*6+j-6=i*6+j by omega]
   exact ih h
theorem OwnO.at{w:World}{base:Nat}{v:Value}{l:List Op6}(h:OwnO w base v l):OpsAt w v l:=by
 obtain⟨h1,⟨rfl,h3⟩|⟨g,cap,cur,rfl,hb,hg,hnc,hcm,hcs,ht⟩⟩:=h
 .refine⟨none,0,by rw[h3],by omega,Xc _,fun i o ho=>?_⟩
  rw[List.eq_nil_of_length_eq_zero h3]at ho
  cases ho
 .refine⟨_,cap,rfl,hnc,hcm,fun i o ho=>⟨g,0,rfl,fun j x hx=>?_⟩⟩
  have hj:j<6:=by have:=(Array.getElem?_eq_some_iff.1 hx).1;exact this
  have e:=ZNF l ho j hj;rw[hx,<-ht,List.getElem?_take]at e
  split at e
  .simp only[World.cell?,hg,Option.bind_some,Xf]
   rw[<-e]
   simp
  .cases e
theorem ZI2(v:Value)(l:List Op6)(w:World)(h:OpsAt w v l)(hl:∀o∈l,o.Ok)(ht:Tb w)(ha:∀k,Fl.ok k):Calls prog 26 #[v,I X 4,I X 13] w fun e w'=>e=Y (C true)/\Nx w w':=by
 have H:=A h;have HL:=A hl;have HTB:=A ht;have HA:=A ha;have HSM:=A (ZI1 v l w h hl);obtain⟨ao,cap,rfl,h1,h2,-⟩:=id h;unfold maxLen at h2;clear h hl ht ha
 go_enter func26,ntmps26
 go_wp2_with fail
 refine HSM.o.mono ?_
 rintro e w1 ⟨r,rfl,hr,hn1⟩;have HN1:=A hn1;clear hn1 HSM
 cases r
 .go_wp2
  go_ret;exact⟨rfl,HN1.o⟩
 .have hlen:=hr rfl
  clear hr;go_wp2
  go_loopw [8,9] (fun x i wr=>∃(k:Nat) (ls:List Op6),k<=l.length/\i=I X k/\ls.length<=k/\OwnO wr w.heap.size x ls/\(∀o∈ls,o.Ok/\o.k≠2/\o.k≠3)/\Nx w wr) (fun _ i _=>l.length-(intOf i).toNat)
  case atStart=>exact⟨0,[],Xc _,rfl,Xd _,World.ownsRow_nil _ _ _ _,(fun o ho=>by cases ho),HN1.o⟩
  case round=>
   obtain⟨k,ls,hk,rfl,hls,hown,hok,hnx⟩:=hrel;have HN:=A hnx;have HO:=A hown;have HK:=A hok;have hz:=hnx.size;clear hown hok
   by_cases hlt:k<l.length
   .obtain⟨o,ho⟩:∃o,l[k]?=some o:=⟨_,Xb hlt⟩
    obtain⟨b,off,e,c0,c1,c2,c3,c4,c5⟩:=(H.o.on hnx).get ho;subst e;have HOK:=A (HL.o o (Xa ho));clear hnx ho;obtain⟨ok,oa,ob,oc,os,ot⟩:=o;simp only at c0 c1 c2 c3 c4 c5
    have fin:((ok==1)=true∨((ok==1)=false/\decide ((4:Int)<=ok)=true/\decide (ok<=13)=true))∨((ok==1)=false/\(decide ((4:Int)<=ok)=false∨(decide ((4:Int)<=ok)=true/\decide (ok<=13)=false))):=by cases ok==1<;>cases decide ((4:Int)<=ok)<;>cases decide (ok<=13)<;>simp
    rcases fin with fin|fin
    .have HNE:=A (show ok≠2/\ok≠3 by
      rcases fin with g|⟨-,g,-⟩
      .have:=beq_iff_eq.1 g;omega
      .have:=of_decide_eq_true g;omega)
     have HKN:=A (show ∀o∈ls++[Op6.mk ok oa ob oc os ot],o.Ok/\o.k≠2/\o.k≠3 from fun o ho=>by
      rcases List.mem_append.1 ho with ho|ho
      .exact HK.o o ho
      .rw[List.mem_singleton]at ho
       subst ho
       exact⟨HOK.o,HNE.o⟩)
     rcases fin with g1|⟨g1,g2,g3⟩
     all_goals
      go_wp2_with (at_builtin;go_must (refine ZNv wr ⟨ok,oa,ob,oc,os,ot⟩ rfl _ _ rfl w.heap.size _ ls rfl HO.o rfl (by omega) hz ?_;intro v' w3 ho3 hb3;have HO3:=A ho3;have HN3:=A (HN.o.trans hb3);clear ho3 hb3))
      go_roundw
      exact⟨k+1,ls++[⟨ok,oa,ob,oc,os,ot⟩],by omega,by go_num,by simp;omega,HO3.o,HKN.o,HN3.o⟩
      simp[intOf];omega
    .obtain⟨g1,g2|⟨g2,g3⟩⟩:=fin
     all_goals
      go_wp2
      go_roundw
      exact⟨k+1,ls,by omega,by go_num,by omega,HO.o,HK.o,HN.o⟩
      simp[intOf];omega
   .obtain⟨bo,bn,bc,hve⟩:∃bo bn bc,_=Value.slice bo bn bc:=by obtain⟨bo,bc,h,-⟩:=OwnO.at HO.o;exact⟨bo,_,bc,h⟩
    subst hve
    have HUP:=A (ZKN _ ls wr (OwnO.at HO.o) HK.o (by omega) (HTB.o.on HN.o) HA.o)
    go_wp2_with fail
    refine HUP.o.mono ?_
    rintro e w4 ⟨rfl,hn4⟩;have HN4:=A (HN.o.then hn4);clear hn4;go_wp2;go_ret;exact⟨rfl,HN4.o⟩
theorem ZM2(v:Value)(l:List Op6)(w:World)(h:OpsAt w v l)(hl:∀o∈l,o.Ok)(ht:Tb w)(ha:∀k,Fl.ok k):Calls prog 8 #[v] w fun e w'=>e=Y (C true)/\Nx w w':=by
 have HPL:=A (ZI2 v l w h hl ht ha);obtain⟨ao,cap,rfl,-⟩:=id h;clear h hl ht ha
 go_enter func8,ntmps8
 go_wp2_with fail
 refine HPL.o.mono ?_
 rintro e w1 ⟨rfl,hn1⟩;have HN1:=A hn1;clear hn1;go_wp2;go_ret;exact⟨rfl,HN1.o⟩
end Go.Proofs.YtchkhibgbnhjpabGreatDoor
