import Derived.Test.YtchkhibgbnhjpabGreatDoorW01
import Derived.Laws.Bits64b
import Derived.Shelf.LaysM
import Derived.Shelf.Strconv.Itoa3
import Derived.Shelf.Strconv.Itoa4
import Derived.Deep.RegionWith
open Array renaming getElem?_modify→Xa,getElem?_eq_some_iff→Xj
open Int renaming mul_le_mul_of_nonneg_right→Xz,toNat_natCast→XH,pow_nonneg→XQ,mul_assoc→XS,le_trans→XV,pow_succ→XW,mul_comm→XX
open List renaming length_append→Xc,length_cons→Xd,length_drop→Xf,length_take→Xg,append_nil→Xh,append_assoc→Xi,drop_of_length_le→Xk,map_append→Xl,nil_append→Xm,map_nil→Xn,length_map→Xo,mem_cons_of_mem→Xp,mem_of_mem_take→Xq,map_cons→Xs,mem_cons_self→Xt,getElem_drop→Xv,take_succ_eq_append_getElem→Xw,getElem_mem→Xx,eq_nil_of_length_eq_zero→Xy,dropWhile_append_of_pos→XA,dropWhile_cons_of_neg→XB,drop_eq_getElem_cons→XC,getElem?_eq_getElem→XD,take_append_drop→XE,reverse_append→XF,mem_singleton→XG,all_eq_true→XJ,length_set→XK,length_nil→XL,mem_append→XM,drop_drop→XN,drop_take→XO,drop_zero→XP,mem_cons→XR,mem_map→XU
open Nat renaming le_refl→Xb,le_trans→Xe,zero_le→Xr,eq_zero_or_pos→Xu,add_zero→XY
open Or renaming inr→XI,inl→XT
open Go.Value renaming string→J,bool→C,int→I
open Go.IntKind renaming i64→X
open Go.Ending renaming returned→Y
open Go.Obj renaming cells→O
namespace Go.Proofs.YtchkhibgbnhjpabGreatDoor
open Tryz
open Go.RowKit
open Go.RowKit Go.Shelf
set_option maxHeartbeats 8000000
set_option maxRecDepth 100000
variable [Fl]
set_option linter.all false
theorem ZcW{w:World}{base:Nat}{v:Value}{bs:LA}(h:ZbK w base v bs)(h0:0<bs.length):∃g n cap,v=.slice (some ⟨g,0,none⟩) n cap:=by obtain⟨g,cap,h,-,-⟩:=Zh9 h h0;exact⟨g,_,cap,h⟩
theorem Zd(a b:BA):tl (a++b)=tl a++tl b:=by simp[tl]
theorem Zk(a b:BA):(a++b).size=a.size+b.size:=by simp
def joinL(f:Bool)(ps:List (List UInt8))(seg:List UInt8):List (List UInt8):=
 ps++[if f=true/\ps=[]/\ZY seg=true then seg.take 1++[58]else encB (tl (Zbo 4)) (clean seg)]
theorem Znc{ps:List LB}{seg:LB}(h:ps=[])(hd:ZY seg=true):joinL true ps seg=ps++[seg.take 1++[58]]:=by unfold joinL;rw[ifP ⟨rfl,h,hd⟩]
theorem Zkw{f:Bool}{ps:List LB}{seg:LB}(h:¬(f=true/\ps=[]/\ZY seg=true)):joinL f ps seg=ps++[encB (tl (Zbo 4)) (clean seg)]:=by unfold joinL;rw[ifN h]
theorem Zu3(pb base:Nat)(f s:Bool)(v:Value)(bs:LA)(q:BA)(w:World)(hp:PthAt w pb f s v)(ho:ZbK w base v bs)(hb:base<=pb)(hbw:base<=w.heap.size)(hl:bs.length<=1000000)(hq:q.size<=1000000):Calls prog 303 #[.pointer (some ⟨pb,0,none⟩),J q] w fun e w'=>∃x v' bs',e=Y x/\PthAt w' pb f s v'/\ZbK w' base v' bs'/\bs'.map tl=joinL f (bs.map tl) (tl q)/\bs'.length<=bs.length+1/\Below base w w':=by
 have HP:=A hp;have HO:=A ho;have HB:=A hb;clear hp ho hb
 go_enter func303,ntmps303
 go_wp2_with fail
 refine(Za1 _ _ _ hq).mono ?_
 rintro e w1 ⟨r1,rfl,hr1,hn1⟩;have HP1:=A (HP.o.on hn1);have HO1:=A (Zbw HO.o hn1);have HR1:=A hr1;have hz:base<=w1.heap.size:=Xe hbw hn1.size;have HN1:=A (show Below base w w1 from hn1.mono hbw);clear hr1 hn1 HP HO;obtain⟨hc0,hc1,hc2,hf2⟩:=HP1.o.facts
 have hbl:bs.length<1099511627776:=by omega
 have key:∀(y:BA) (w2:World) (v':Value),ZbK w2 base v' (bs++[y])->Below base w1 w2->Kp 9 w1 w2->PthAt w2 pb f s v/\(∀u,PthAt (w2.setCell ⟨pb,2,none⟩ u) pb f s u)/\(∀u,ZbK (w2.setCell ⟨pb,2,none⟩ u) base v' (bs++[y]))/\(∀u,Below base w (w2.setCell ⟨pb,2,none⟩ u)):=by
  intro y w2 v' h1 h2 h3;have h4:=HP1.o.kp h3
  exact⟨h4,fun u=>h4.set u,fun u=>h4.own h1 u,fun u=>(HN1.o.trans h2).setCell HB.o u⟩
 have KEY:=A key;clear key
 cases f
 focus
  have HE:=A (show joinL false (bs.map tl) (tl q)=(bs++[r1]).map tl by rw[Zkw (by rintro⟨h,-⟩;cases h),Xl,Xs,Xn,HR1.o])
  go_wp2_with (at_builtin;go_must (refine Zds w1 r1 rfl _ _ rfl base v bs rfl HO1.o rfl hbl hz ?_;intro v' w2 ho2 hb2 hk2;obtain⟨g2,n2,c2,rfl⟩:=ZcW ho2 (by simp);obtain⟨hp4,hps,hos,hbs⟩:=KEY.o r1 w2 _ ho2 hb2 hk2;obtain⟨-,-,hd2,hg2⟩:=hp4.facts;have HPS:=A hps;have HOS:=A hos;have HBS:=A hbs;clear ho2 hb2 hk2 hp4 hps hos hbs))
 rotate_left
 focus
  rcases Xu bs.length with h0|hpos
  focus
   have e0:bs=[]:=Xy h0;subst e0;obtain⟨ao,cap,rfl⟩:=Zjz HO1.o;clear h0
   cases hd:ZY (tl q)
   focus
    have HD:=A hd
    have HE:=A (show joinL true ([].map tl) (tl q)=([]++[r1]:LA).map tl by rw[Zkw (by rintro⟨-,-,h⟩;rw[hd]at h;cases h),Xm,Xn,Xm,Xs,Xn,HR1.o])
    clear hd
    go_wp2_with (first|(go_at_call 288;refine(ZdT _ _).mono ?_;rintro e w' ⟨rfl,rfl⟩;rw[HD.o])|(at_builtin;go_must (refine Zds w1 r1 rfl _ _ rfl base _ [] rfl HO1.o rfl hbl hz ?_;intro v' w2 ho2 hb2 hk2;obtain⟨g2,n2,c2,rfl⟩:=ZcW ho2 (by simp);obtain⟨hp4,hps,hos,hbs⟩:=KEY.o r1 w2 _ ho2 hb2 hk2;obtain⟨-,-,hd2,hg2⟩:=hp4.facts;have HPS:=A hps;have HOS:=A hos;have HBS:=A hbs;clear ho2 hb2 hk2 hp4 hps hos hbs)))
   rotate_left
   focus
    have hq2:=Zfa hd;rw[Za]at hq2
    have hq1:1<=q.size:=by omega
    have HD:=A hd
    have HE:=A (show joinL true ([].map tl) (tl q)=([]++[q.extract 0 1++(⟨#[58]⟩:BA)]:LA).map tl by rw[Xn,Znc rfl hd,Xm,Xm,Xs,Xn,Zd,tl_to];rfl)
    have hsz:(q.extract 0 1).size<=1000000:=Xe (Zxf q 1) hq;clear hd hq2
    go_wp2_with (first|(go_at_call 288;refine(ZdT _ _).mono ?_;rintro e w' ⟨rfl,rfl⟩;rw[HD.o])|(at_builtin;go_must (refine Zds w1 (q.extract 0 1++(⟨#[58]⟩:BA)) rfl _ _ rfl base _ [] rfl HO1.o rfl hbl hz ?_;intro v' w2 ho2 hb2 hk2;obtain⟨g2,n2,c2,rfl⟩:=ZcW ho2 (by simp);obtain⟨hp4,hps,hos,hbs⟩:=KEY.o (q.extract 0 1++(⟨#[58]⟩:BA)) w2 _ ho2 hb2 hk2;obtain⟨-,-,hd2,hg2⟩:=hp4.facts;have HPS:=A hps;have HOS:=A hos;have HBS:=A hbs;clear ho2 hb2 hk2 hp4 hps hos hbs)))
  rotate_left 2
  focus
   obtain⟨g,cap,rfl,hlc,hcm⟩:=Zh9 HO1.o hpos;unfold maxLen at hcm
   have hn0:((bs.length:Int)==0)=false:=beq_eq_false_iff_ne.2 (by omega)
   have HE:=A (show joinL true (bs.map tl) (tl q)=(bs++[r1]).map tl by
    rw[Zkw (by rintro⟨-,h,-⟩;have:=congrArg List.length h;rw[Xo]at this;simp at this;subst this;simp at hpos),Xl,Xs,Xn,HR1.o])
   go_wp2_with (at_builtin;go_must (refine Zds w1 r1 rfl _ _ rfl base _ bs rfl HO1.o rfl hbl hz ?_;intro v' w2 ho2 hb2 hk2;obtain⟨g2,n2,c2,rfl⟩:=ZcW ho2 (by simp);obtain⟨hp4,hps,hos,hbs⟩:=KEY.o r1 w2 _ ho2 hb2 hk2;obtain⟨-,-,hd2,hg2⟩:=hp4.facts;have HPS:=A hps;have HOS:=A hos;have HBS:=A hbs;clear ho2 hb2 hk2 hp4 hps hos hbs))
 all_goals
  exact bodyPost_end (results_none rfl _ _ _) rfl ⟨_,_,_,rfl,HPS.o _,HOS.o _,HE.o.symm,by simp,HBS.o _⟩
theorem Zxk(w:World):Calls prog 295 #[I X 16] w fun e w'=>e=Y (C true)/\w=w':=by
 go_enter func295,ntmps295
 go_wp2;go_ret;exact⟨rfl,rfl⟩
theorem Zxl(w:World)(h:w.cell? ⟨2,15,none⟩=some (.int .u8 4)):Calls prog 305 #[.int .u64 16] w fun e w'=>e=Y (I X 4)/\w=w':=by
 have e1:IntKind.u64.wrap (bits BinOp.and IntKind.u64 16 (IntKind.u64.wrap (-16))*285870213051353865)/288230376151711744=15:=by decide
 go_enter func305,ntmps305
 go_wp2;go_ret;exact⟨rfl,rfl⟩
theorem ZyX(w:World)(h:w.cell? ⟨2,15,none⟩=some (.int .u8 4)):Calls prog 296 #[.int .u64 16] w fun e w'=>e=Y (I X 4)/\w=w':=by
 go_enter func296,ntmps296
 go_wp2_with (go_at_call 305;refine(Zxl _ h).mono ?_;rintro e w' ⟨rfl,rfl⟩)
 go_ret;exact⟨rfl,rfl⟩
def ZfJ(d:Nat):UInt8:=if d<10 then UInt8.ofNat (48+d)else UInt8.ofNat (87+d)
def Zi7(n:Nat):List UInt8:=if n<16 then [ZfJ n]else if n<256 then [ZfJ (n/16),ZfJ (n%16)]else if n<4096 then [ZfJ (n/256),ZfJ (n/16%16),ZfJ (n%16)]else [ZfJ (n/4096),ZfJ (n/256%16),ZfJ (n/16%16),ZfJ (n%16)]
theorem ZjA{n:Nat}(h:n<16):Zi7 n=[ZfJ n]:=by unfold Zi7;rw[ifP h]
theorem Zlm{n:Nat}(h:16<=n)(h2:n<=65535):Zi7 n=Zi7 (n/16)++[ZfJ (n%16)]:=by
 unfold Zi7
 by_cases h1:n<256
 .rw[ifN (by omega),ifP h1,ifP (by omega)];rfl
 .by_cases h3:n<4096
  .rw[ifN (by omega),ifN h1,ifP h3,ifN (by omega),ifP (by omega),show n/16/16=n/256 by omega];rfl
  .rw[ifN (by omega),ifN h1,ifN h3,ifN (by omega),ifN (by omega),ifP (by omega),show n/16/256=n/4096 by omega,show n/16/16=n/256 by omega];rfl
theorem Zf7(n:Nat):1<=(Zi7 n).length/\(Zi7 n).length<=4:=by
 unfold Zi7
 split
 .simp
 .split
  .simp
  .split<;>simp
def BufAt(w:World)(ab:Nat)(cs:List UInt8):Prop:=w.heap[ab]?=some (O (cs.map fun b=>Value.int .u8 (b.toNat:Int)).toArray 249 (0,0))/\cs.length=65
theorem BufAt.cell{w:World}{ab:Nat}{cs:LB}(h:BufAt w ab cs){i:Nat}(hi:i<cs.length):w.cell? ⟨ab,i,none⟩=some (.int .u8 (cs[i].toNat:Int)):=by
 have h1:=h.1
 simp[World.cell?,h1,XD hi]
theorem BufAt.free{w:World}{ab:Nat}{cs:LB}(h:BufAt w ab cs)(i:Nat):w.frozen? ⟨ab,i,none⟩=false:=by
 have h1:=h.1
 simp[World.frozen?,h1]
theorem BufAt.set{w:World}{ab:Nat}{cs:LB}(h:BufAt w ab cs)(i:Nat)(x:UInt8)(y:Int)(hy:y=(x.toNat:Int)):BufAt (w.setCell ⟨ab,i,none⟩ (.int .u8 y)) ab (cs.set i x):=by
 subst hy;obtain⟨h1,h2⟩:=h
 refine⟨?_,by rw[XK];exact h2⟩
 simp only[World.setCell,Xa,ifP,h1]
 simp[List.map_set]
theorem Zxm(w:World):BufAt (w.alloc (O zeroCells249 249)) w.heap.size (List.replicate 65 0):=⟨(heap_alloc_new w _).trans (by kernel_rfl),rfl⟩
def Zfb:ByteArray:=⟨#[48,49,50,51,52,53,54,55,56,57,97,98,99,100,101,102,103,104,105,106,107,108,109,110,111,112,113,114,115,116,117,118,119,120,121,122]⟩
theorem ZoV(d:Nat)(h:d<16)(hh:d<Zfb.size):Zfb[d]'hh=ZfJ d:=by
 match d,h with
 | 0,_=>rfl
 | 1,_=>rfl
 | 2,_=>rfl
 | 3,_=>rfl
 | 4,_=>rfl
 | 5,_=>rfl
 | 6,_=>rfl
 | 7,_=>rfl
 | 8,_=>rfl
 | 9,_=>rfl
 | 10,_=>rfl
 | 11,_=>rfl
 | 12,_=>rfl
 | 13,_=>rfl
 | 14,_=>rfl
 | 15,_=>rfl
 | k+16,h=>exact absurd h (by omega)
theorem drop_set(cs:LB)(j:Nat)(d:UInt8)(h:j<cs.length):(cs.set j d).drop j=d::cs.drop (j+1):=by rw[XC (by rw[XK];exact h),List.getElem_set_self,List.drop_set_of_lt (by omega)]
theorem Zqo(m:Nat)(hh:m%16<Zfb.size):(((Zfb[m%16]'hh).toNat:Nat):Int)=((ZfJ (m%16)).toNat:Int):=by rw[ZoV (m%16) (by omega) hh]
theorem Znd(m:Nat)(h:m<16)(hh:m<Zfb.size):(((Zfb[m]'hh).toNat:Nat):Int)=((ZfJ m).toNat:Int):=by rw[ZoV m h hh]
theorem ZyY(m:Nat)(h:m<=65535):bits BinOp.and IntKind.u64 (m:Int) 15=((m%16:Nat):Int):=by
 have:=bits_and_u64_nat m 15 (by omega) (by decide)
 rw[show((15:Nat):Int)=15 from rfl]at this;rw[this,show(15:Nat)=2^4-1 from rfl,Nat.and_two_pow_sub_one_eq_mod]
theorem Zsq(n:Nat)(hn:n<=65535)(w:World)(h:w.cell? ⟨2,15,none⟩=some (.int .u8 4)):Calls prog 268 #[.slice none 0 0,.int .u64 n,I X 16,C false,C false] w fun e w'=>∃r:BA,e=Y (.tuple #[.slice none 0 0,J r])/\tl r=Zi7 n/\Nx w w':=by
 go_enter func268,ntmps268
 have h':∀o,(w.alloc o).cell? ⟨2,15,none⟩=some (.int .u8 4):=fun o=>((Nx.rfl.alloc o).cell (World.block_lt_of_cell? w _ h)).trans h
 go_wp2_with (first|(go_at_call 295;refine(Zxk _).mono ?_;rintro e w' ⟨rfl,rfl⟩)|(go_at_call 296;refine(ZyX _ (h' _)).mono ?_;rintro e w' ⟨rfl,rfl⟩))
 clear h'
 go_loopw [1,13] (fun u i wr=>∃(m j:Nat) (cs:LB),u=.int .u64 m/\i=I X ((j:Int)+1)/\m<=65535/\j<=64/\BufAt wr w.heap.size cs/\Zi7 n=Zi7 m++cs.drop (j+1)/\(Zi7 m).length+(64-j)<=4/\Nx w wr) (fun u _ _=>(intOf u).toNat)
 case atStart=>exact⟨n,64,_,rfl,rfl,hn,by omega,Zxm w,by rw[Xk (by simp),Xh],by have:=Zf7 n;omega,Nx.rfl.alloc _⟩
 case round=>
  obtain⟨m,j,cs,rfl,rfl,hm,hj,hbuf,hE,hL,hnx⟩:=hrel;have hl:=Zf7 m
  have hjl:j<cs.length:=by have:=hbuf.2;omega
  have hcj:=hbuf.cell hjl;have hfj:=hbuf.free j;have hand:=ZyY m hm;have HB:=A hbuf;have HE:=A hE;have HL:=A hL;have HN:=A hnx;clear hbuf hE hL hnx;generalize cs[j]=old at *
  by_cases h16:16<=m
  .have hst:=Zlm h16 hm
   have HST:=A hst;have hl2:=congrArg List.length hst;rw[Xc,List.length_singleton]at hl2;have hl3:=Zf7 (m/16);have HL2:=A hl2
   have hj1:1<=j:=by have:=HL.o;omega
   clear hst hl2;go_wp2
   refine⟨⟨m/16,j-1,cs.set j (ZfJ (m%16)),by simp,by rw[show((j-1:Nat):Int)+1=(j:Int)by omega],by omega,by omega,HB.o.set j (ZfJ (m%16)) _ (Zqo m _),?_,by have:=HL.o;have:=HL2.o;omega,HN.o.setCell (Xb _) _⟩,by simp[intOf];omega⟩
   rw[HE.o,HST.o,show j-1+1=j by omega,drop_set cs j _ hjl,Xi]
   rfl
  .have HST:=A (ZjA (n:=m) (by omega))
   have h16':m<16:=by omega
   have HB2:=A (HB.o.set j (ZfJ m) _ rfl)
   have HE2:=A (show Zi7 n=(cs.set j (ZfJ m)).drop j by rw[HE.o,HST.o,drop_set cs j _ hjl];rfl)
   have hdg:∀hh,((((⟨#[48,49,50,51,52,53,54,55,56,57,97,98,99,100,101,102,103,104,105,106,107,108,109,110,111,112,113,114,115,116,117,118,119,120,121,122]⟩:BA)[m]'hh).toNat:Nat):Int)=((ZfJ m).toNat:Int):=fun hh=>Znd m h16' hh
   have hcv:(convert 160 9 (.slice (some ⟨w.heap.size,j,none⟩) (65-j) (65-j))).run prog (wr.setCell ⟨w.heap.size,j,none⟩ (.int .u8 ((ZfJ m).toNat:Int)))=.ok (J ⟨(Zi7 n).toArray⟩) (wr.setCell ⟨w.heap.size,j,none⟩ (.int .u8 ((ZfJ m).toNat:Int))):=by
    have hlen:((cs.set j (ZfJ m)).drop j).length=65-j:=by rw[Xf,HB2.o.2]
    have:=run_convert_bytes_back (P:=prog) (wr.setCell ⟨w.heap.size,j,none⟩ (.int .u8 ((ZfJ m).toNat:Int))) 160 9 5 ⟨w.heap.size,j,none⟩ (65-j) ((cs.set j (ZfJ m)).drop j) underlying160 underlying5 underlying9 (fun i hi=>by
     rw[Xf]at hi
     rw[Addr.add_lit,HB2.o.cell (i:=j+i) (by omega),Xv])
    rw[hlen]at this;rw[this,HE2.o]
   have hsl:∀W,(Instr.sliceAt 249 (.pointer (some ⟨w.heap.size,0,none⟩)) (some (I X (j:Int))) none none).run prog W=.ok (.slice (some ⟨w.heap.size,j,none⟩) (65-j) (65-j)) W:=fun W=>by
    rw[run_sliceAt_array_l W 249 ⟨w.heap.size,0,none⟩ (by simp[Program.arrayLen,Program.elem,underlying249]) .i64 (j:Int) (by omega) (by rw[show prog.arrayLen 249=65 by kernel_rfl];omega)]
    rw[show prog.arrayLen 249=65 by kernel_rfl,show prog.elem 249=5 by kernel_rfl]
    rw[sizeOf5]
    simp[slicedAt,Result.andThen,Addr.add_lit]
    omega
   go_wp2;go_ret2;exact⟨_,rfl,tl_mk _,HN.o.setCell (Xb _) _⟩
theorem Zu4(n:Nat)(hn:n<=65535)(w:World)(h:w.cell? ⟨2,15,none⟩=some (.int .u8 4)):Calls prog 230 #[I X n,I X 16] w fun e w'=>∃r:BA,e=Y (J r)/\tl r=Zi7 n/\Nx w w':=by
 go_enter func230,ntmps230
 go_wp2_with (go_at_call 268;refine(Zsq n hn _ h).mono ?_;rintro e w1 ⟨r,rfl,hr,hn1⟩;have HR:=A hr;have HN:=A hn1;clear hr hn1)
 go_ret;exact⟨_,rfl,HR.o,HN.o⟩
theorem Zln(n:Nat)(hn:n<=65535)(w:World)(h:w.cell? ⟨2,15,none⟩=some (.int .u8 4)):Calls prog 320 #[I X n,I X 16] w fun e w'=>∃r:BA,e=Y (J r)/\tl r=Zi7 n/\Nx w w':=by
 go_enter func320,ntmps320
 go_wp2_with (go_at_call 230;refine(Zu4 n hn _ h).mono ?_;rintro e w1 ⟨r,rfl,hr,hn1⟩;have HR:=A hr;have HN:=A hn1;clear hr hn1)
 go_ret;exact⟨_,rfl,HR.o,HN.o⟩
def Zlo:Go.Shelf.Ren:=⟨fun|171=>147|243=>197|246=>230|283=>265|284=>266|285=>267|286=>268|129=>293|317=>292|318=>294|319=>295|320=>296|337=>304|338=>305|n=>n,fun|3=>3|9=>9|2=>2|4=>4|171=>228|0=>0|53=>229|37=>160|5=>5|173=>232|212=>247|51=>248|20=>20|213=>249|46=>189|232=>262|233=>263|n=>n,fun|17=>0|18=>1|19=>2|n=>n⟩
theorem Zu5:Go.Proofs.LaysM.n171 prog Zlo:={
 mixed:=by kernel_rfl
 f129:=func293.trans (congrArg some (by kernel_rfl))
 f171:=func147.trans (congrArg some (by kernel_rfl))
 f243:=func197.trans (congrArg some (by kernel_rfl))
 f246:=func230.trans (congrArg some (by kernel_rfl))
 f283:=func265.trans (congrArg some (by kernel_rfl))
 f284:=func266.trans (congrArg some (by kernel_rfl))
 f285:=func267.trans (congrArg some (by kernel_rfl))
 f286:=func268.trans (congrArg some (by kernel_rfl))
 f317:=func292.trans (congrArg some (by kernel_rfl))
 f318:=func294.trans (congrArg some (by kernel_rfl))
 f319:=func295.trans (congrArg some (by kernel_rfl))
 f320:=func296.trans (congrArg some (by kernel_rfl))
 f337:=func304.trans (congrArg some (by kernel_rfl))
 f338:=func305.trans (congrArg some (by kernel_rfl))
 t0:=underlying0
 a0:=isAgg0
 z0:=sizeOf0
 v0:=zeroValue0
 t2:=underlying2
 a2:=isAgg2
 z2:=sizeOf2
 v2:=zeroValue2
 t3:=underlying3
 a3:=isAgg3
 z3:=sizeOf3
 v3:=zeroValue3
 t4:=underlying4
 a4:=isAgg4
 z4:=sizeOf4
 v4:=zeroValue4
 t5:=underlying5
 a5:=isAgg5
 z5:=sizeOf5
 v5:=zeroValue5
 t9:=underlying9
 a9:=isAgg9
 z9:=sizeOf9
 v9:=zeroValue9
 t20:=underlying20
 a20:=isAgg20
 z20:=sizeOf20
 v20:=zeroValue20
 t37:=underlying160
 a37:=isAgg160
 z37:=sizeOf160
 v37:=zeroValue160
 t46:=underlying189
 a46:=isAgg189
 z46:=sizeOf189
 v46:=zeroValue189
 t51:=underlying248
 a51:=isAgg248
 z51:=sizeOf248
 v51:=zeroValue248
 t53:=underlying229
 a53:=isAgg229
 z53:=sizeOf229
 v53:=zeroValue229
 t171:=underlying228
 a171:=isAgg228
 z171:=sizeOf228
 v171:=zeroValue228
 t173:=underlying232
 a173:=isAgg232
 z173:=sizeOf232
 v173:=zeroValue232
 t212:=underlying247
 a212:=isAgg247
 z212:=sizeOf247
 v212:=zeroValue247
 t213:=underlying249
 a213:=isAgg249
 z213:=sizeOf249
 t232:=underlying262
 a232:=isAgg262
 z232:=sizeOf262
 v232:=zeroValue262
 t233:=underlying263
 a233:=isAgg263
 z233:=sizeOf263
 v233:=zeroValue263
 g17:=by kernel_rfl
 g18:=by kernel_rfl
 g19:=by kernel_rfl
 i0:=by kernel_rfl
 i2:=by kernel_rfl
 i3:=by kernel_rfl
 i4:=by kernel_rfl
 i5:=by kernel_rfl
 i9:=by kernel_rfl
 i20:=by kernel_rfl
 i37:=by kernel_rfl
 i46:=by kernel_rfl
 i51:=by kernel_rfl
 i53:=by kernel_rfl
 i171:=by kernel_rfl
 i173:=by kernel_rfl
 i212:=by kernel_rfl
 i232:=by kernel_rfl
 i233:=by kernel_rfl
 m17:=by kernel_rfl
 m18:=by kernel_rfl
 m19:=by kernel_rfl }
def Zlp:Go.Shelf.Ren:=⟨fun|173=>320|246=>230|283=>265|284=>266|285=>267|286=>268|129=>293|317=>292|318=>294|319=>295|320=>296|337=>304|338=>305|n=>n,fun|2=>2|3=>3|9=>9|4=>4|171=>228|0=>0|53=>229|37=>160|5=>5|173=>232|212=>247|51=>248|20=>20|213=>249|46=>189|232=>262|233=>263|n=>n,fun|17=>0|18=>1|19=>2|n=>n⟩
theorem Zu6:Go.Proofs.LaysM.n173 prog Zlp:={
 mixed:=by kernel_rfl
 f129:=func293.trans (congrArg some (by kernel_rfl))
 f173:=func320.trans (congrArg some (by kernel_rfl))
 f246:=func230.trans (congrArg some (by kernel_rfl))
 f283:=func265.trans (congrArg some (by kernel_rfl))
 f284:=func266.trans (congrArg some (by kernel_rfl))
 f285:=func267.trans (congrArg some (by kernel_rfl))
 f286:=func268.trans (congrArg some (by kernel_rfl))
 f317:=func292.trans (congrArg some (by kernel_rfl))
 f318:=func294.trans (congrArg some (by kernel_rfl))
 f319:=func295.trans (congrArg some (by kernel_rfl))
 f320:=func296.trans (congrArg some (by kernel_rfl))
 f337:=func304.trans (congrArg some (by kernel_rfl))
 f338:=func305.trans (congrArg some (by kernel_rfl))
 t0:=underlying0
 a0:=isAgg0
 z0:=sizeOf0
 v0:=zeroValue0
 t2:=underlying2
 a2:=isAgg2
 z2:=sizeOf2
 v2:=zeroValue2
 t3:=underlying3
 a3:=isAgg3
 z3:=sizeOf3
 v3:=zeroValue3
 t4:=underlying4
 a4:=isAgg4
 z4:=sizeOf4
 v4:=zeroValue4
 t5:=underlying5
 a5:=isAgg5
 z5:=sizeOf5
 v5:=zeroValue5
 t9:=underlying9
 a9:=isAgg9
 z9:=sizeOf9
 v9:=zeroValue9
 t20:=underlying20
 a20:=isAgg20
 z20:=sizeOf20
 v20:=zeroValue20
 t37:=underlying160
 a37:=isAgg160
 z37:=sizeOf160
 v37:=zeroValue160
 t46:=underlying189
 a46:=isAgg189
 z46:=sizeOf189
 v46:=zeroValue189
 t51:=underlying248
 a51:=isAgg248
 z51:=sizeOf248
 v51:=zeroValue248
 t53:=underlying229
 a53:=isAgg229
 z53:=sizeOf229
 v53:=zeroValue229
 t171:=underlying228
 a171:=isAgg228
 z171:=sizeOf228
 v171:=zeroValue228
 t173:=underlying232
 a173:=isAgg232
 z173:=sizeOf232
 v173:=zeroValue232
 t212:=underlying247
 a212:=isAgg247
 z212:=sizeOf247
 v212:=zeroValue247
 t213:=underlying249
 a213:=isAgg249
 z213:=sizeOf249
 t232:=underlying262
 a232:=isAgg262
 z232:=sizeOf262
 v232:=zeroValue262
 t233:=underlying263
 a233:=isAgg263
 z233:=sizeOf263
 v233:=zeroValue263
 g17:=by kernel_rfl
 g18:=by kernel_rfl
 g19:=by kernel_rfl
 i0:=by kernel_rfl
 i2:=by kernel_rfl
 i3:=by kernel_rfl
 i4:=by kernel_rfl
 i5:=by kernel_rfl
 i9:=by kernel_rfl
 i20:=by kernel_rfl
 i37:=by kernel_rfl
 i46:=by kernel_rfl
 i51:=by kernel_rfl
 i53:=by kernel_rfl
 i171:=by kernel_rfl
 i173:=by kernel_rfl
 i212:=by kernel_rfl
 i232:=by kernel_rfl
 i233:=by kernel_rfl
 m17:=by kernel_rfl
 m18:=by kernel_rfl
 m19:=by kernel_rfl }
def Tb(w:World):Prop:=Lib.TabIs prog w "internal/strconv.uint64pow10" .u64 Lib.pow10Tab/\w.cell? ⟨2,15,none⟩=some (.int .u8 4)/\Fl.n<=w.heap.size
theorem Zzj:prog.globalNamed "internal/strconv.uint64pow10"=some 0:=by kernel_rfl
theorem Zyh{w w':World}{name:String}{k:IntKind}{zs:LI}(h:Lib.TabIs prog w name k zs)(hb:Nx w w'):Lib.TabIs prog w' name k zs:=by
 unfold Lib.TabIs World.var? at *
 cases hg:prog.globalNamed name with
 | none=>rw[hg]at h;cases h
 | some g=>
  rw[hg]at h;simp only[Option.bind_some]at h ⊢
  cases hw:w.heap[g]? with
  | none=>rw[hw]at h;cases h
  | some o=>rw[hb.block g (Xj.1 hw).1];exact h
theorem Tb.on{w w':World}(h:Tb w)(hb:Nx w w'):Tb w':=
 ⟨Zyh h.1 hb,(hb.cell (World.block_lt_of_cell? w _ h.2.1)).trans h.2.1,Xe h.2.2 hb.size⟩
theorem ZoW(n:Nat):Lib.itoa (n:Int)=Lib.decDigits n:=by
 unfold Lib.itoa
 simp
theorem grow_nx{w:World}{k:Nat}{os:Array Obj}:Nx w (Sort.grow (w.drewN k) os):=by
 refine⟨rfl,rfl,rfl,?_,fun i hi=>?_⟩
 .show w.heap.size<=(w.heap++os).size
  simp
 .show(w.heap++os)[i]?=w.heap[i]?
  rw[Array.getElem?_append_left hi]
theorem Zsr(n:Nat)(hn:n<=4294967295)(w:World)(h:Tb w):Calls prog 320 #[I X n,I X 10] w fun e w'=>∃r:BA,e=Y (J r)/\tl r=Lib.decDigits n/\Nx w w':=by
 refine(Any.strconv_FormatInt_10 Zu6 (n:Int) (by omega) (by omega) w h.1).mono ?_
 rintro e w' ⟨rfl,k,os,rfl⟩
 exact⟨_,rfl,by rw[tl_mk,ZoW],grow_nx⟩
theorem Zu7(n:Nat)(hn:n<=4294967295)(w:World)(h:Tb w):Calls prog 147 #[I X n] w fun e w'=>∃r:BA,e=Y (J r)/\tl r=Lib.decDigits n/\Nx w w':=by
 refine(Any.strconv_Itoa Zu5 (n:Int) (by omega) (by omega) w h.1).mono ?_
 rintro e w' ⟨rfl,k,os,rfl⟩
 exact⟨_,rfl,by rw[tl_mk,ZoW],grow_nx⟩
def lrGo:Nat->Nat->Nat->Nat->List Int->Nat×Nat
 | _,st,ln,_,[]=>(st,ln)
 | i,st,ln,run,x::r=>
  if ln<(if x=0 then run+1 else 0)then lrGo (i+1) (i+1-(if x=0 then run+1 else 0)) (if x=0 then run+1 else 0) (if x=0 then run+1 else 0) r
  else lrGo (i+1) st ln (if x=0 then run+1 else 0) r
def ZW(ns:List Int):Nat×Nat:=lrGo 0 8 1 0 ns
theorem Zu8(ns:LI):∀i st ln run,st<=8->1<=ln->ln<=8->run<=i->i+ns.length<=8->(lrGo i st ln run ns).1<=8/\1<=(lrGo i st ln run ns).2/\(lrGo i st ln run ns).2<=8:=by
 induction ns with
 | nil=>intro i st ln run h1 h2 h3 h4 h5;rw[lrGo];exact⟨h1,h2,h3⟩
 | cons x r ih=>
  intro i st ln run h1 h2 h3 h4 h5;rw[Xd]at h5
  have hr:(if x=0 then run+1 else 0)<=i+1:=by split<;>omega
  rw[lrGo]
  generalize (if x=0 then run+1 else 0)=run' at *
  split
  .exact ih _ _ _ _ (by omega) (by omega) (by omega) hr (by omega)
  .exact ih _ _ _ _ h1 h2 h3 hr (by omega)
theorem Zxn(ns:LI)(k:Nat)(h:k<ns.length)(st ln run:Nat):lrGo k st ln run (ns.drop k) =
  if ln<(if ns[k]=0 then run+1 else 0)then lrGo (k+1) (k+1-(if ns[k]=0 then run+1 else 0)) (if ns[k]=0 then run+1 else 0) (if ns[k]=0 then run+1 else 0) (ns.drop (k+1))
  else lrGo (k+1) st ln (if ns[k]=0 then run+1 else 0) (ns.drop (k+1)):=by
 rw[XC h,lrGo]
theorem Zne(a0 a1 a2 a3 a4 a5 a6 a7:Int)(w:World):Calls prog 319 #[.agg #[I X a0,I X a1,I X a2,I X a3,I X a4,I X a5,I X a6,I X a7]] w fun e w'=>e=Y (.tuple #[I X ((ZW [a0,a1,a2,a3,a4,a5,a6,a7]).1:Nat),I X ((ZW [a0,a1,a2,a3,a4,a5,a6,a7]).2:Nat)])/\Nx w w':=by
 have HA:=A (Zh7 w a0 a1 a2 a3 a4 a5 a6 a7);have HN:=A (show Nx w (w.alloc (O #[I X a0,I X a1,I X a2,I X a3,I X a4,I X a5,I X a6,I X a7] 255))from Nx.rfl.alloc _);have HD:=A (show ZW [a0,a1,a2,a3,a4,a5,a6,a7]=lrGo 0 8 1 0 ([a0,a1,a2,a3,a4,a5,a6,a7].drop 0)from rfl);have h8:[a0,a1,a2,a3,a4,a5,a6,a7].length=8:=rfl;generalize [a0,a1,a2,a3,a4,a5,a6,a7]=ns at *
 go_enter func319,ntmps319
 go_wp2;generalize (w.alloc (O #[I X a0,I X a1,I X a2,I X a3,I X a4,I X a5,I X a6,I X a7] 255))=w1 at *;have H8:=A h8;clear h8
 go_loop [4,5,6,7] (fun s l r i=>∃(k st ln run:Nat),k<=8/\s=I X st/\l=I X ln/\r=I X run/\i=I X k/\st<=8/\ln<=8/\run<=k/\ZW ns=lrGo k st ln run (ns.drop k)) (fun _ _ _ i=>8-(intOf i).toNat)
 case atStart=>exact⟨0,8,1,0,by omega,rfl,rfl,rfl,rfl,by omega,by omega,by omega,HD.o⟩
 case round=>
  obtain⟨k,st,ln,run,hk,rfl,rfl,rfl,rfl,h1,h2,h3,hE⟩:=hrel
  by_cases hlt:k<8
  .have hkl:k<ns.length:=by have:=H8.o;omega
   have hck:=HA.o.cell hkl;rw[Zxn ns k hkl]at hE;have HE:=A hE;clear hE;generalize ns[k]=x at *
   cases hx:(x==0)
   .have hx0:¬x=0:=by simpa using hx
    rw[ifN hx0]at HE
    have HE2:=A (HE.o.trans (ifN (by omega)))
    clear HE hx0;go_wp2
    go_round
    exact⟨k+1,st,ln,0,by omega,rfl,rfl,rfl,by go_num,h1,h2,by omega,HE2.o⟩
    simp[intOf];omega
   .have hx0:x=0:=by simpa using hx
    rw[ifP hx0]at HE;subst hx0
    by_cases hb:ln<run+1
    .have HE2:=A (HE.o.trans (ifP hb))
     have hbi:(ln:Int)<(run:Int)+1:=by omega
     clear HE;go_wp2
     go_round
     exact⟨k+1,k+1-(run+1),run+1,run+1,by omega,by rw[show((k+1-(run+1):Nat):Int)=(k:Int)-((run:Int)+1)+1 by omega],by go_num,by go_num,by go_num,by omega,by omega,by omega,HE2.o⟩
     simp[intOf];omega
    .have HE2:=A (HE.o.trans (ifN hb))
     have hbi:(run:Int)+1<=(ln:Int):=by omega
     clear HE;go_wp2
     go_round
     exact⟨k+1,st,ln,run+1,by omega,rfl,rfl,by go_num,by go_num,h1,h2,by omega,HE2.o⟩
     simp[intOf];omega
  .have HE2:=A (show ZW ns=(st,ln)by rw[hE,Xk (by have:=H8.o;omega),lrGo])
   clear hE;go_wp2;go_ret2
   exact⟨by rw[HE2.o];rfl,HN.o⟩
def Zi8(ns:List Int)(st ln:Nat):Nat->Nat->List UInt8
 | 0,_=>[]
 | f+1,i=>if 8<=i then []else if i=st then [58,58]++Zi8 ns st ln f (i+ln)else(if 0<i/\i≠st+ln then [58]else [])++Zi7 (ns.getD i 0).toNat++Zi8 ns st ln f (i+1)
def Zi9(ns:List Int):List UInt8:=Zi8 ns (ZW ns).1 (ZW ns).2 8 0
theorem Zyi(ns:LI)(st ln f i:Nat)(h:8<=i):Zi8 ns st ln f i=[]:=by
 cases f with
 | zero=>rfl
 | succ f=>rw[Zi8,ifP h]
theorem ZyZ{ns:LI}{k:Nat}(h:k<ns.length):ns.getD k 0=ns[k]:=by rw[List.getD_eq_getElem?_getD,XD h];rfl
theorem Zss(a0 a1 a2 a3 a4 a5 a6 a7:Int)(w:World)(ht:Tb w)(hp:∀x∈[a0,a1,a2,a3,a4,a5,a6,a7],0<=x/\x<=65535):Calls prog 307 #[.agg #[I X a0,I X a1,I X a2,I X a3,I X a4,I X a5,I X a6,I X a7]] w fun e w'=>∃r:BA,e=Y (J r)/\tl r=Zi9 [a0,a1,a2,a3,a4,a5,a6,a7]/\Nx w w':=by
 have HA:=A (Zh7 w a0 a1 a2 a3 a4 a5 a6 a7);have HN:=A (show Nx w (w.alloc (O #[I X a0,I X a1,I X a2,I X a3,I X a4,I X a5,I X a6,I X a7] 255))from Nx.rfl.alloc _);have HLR:=A (Zne a0 a1 a2 a3 a4 a5 a6 a7);have h8:[a0,a1,a2,a3,a4,a5,a6,a7].length=8:=rfl;have HP:=A hp;have HTB:=A ht;clear hp ht;generalize [a0,a1,a2,a3,a4,a5,a6,a7]=ns at *
 have hrg:=Zu8 ns 0 8 1 0 (by omega) (by omega) (by omega) (by omega) (by omega)
 change (ZW ns).1<=8/\1<=(ZW ns).2/\(ZW ns).2<=8 at hrg
 have HD:=A (show Zi9 ns=Zi8 ns (ZW ns).1 (ZW ns).2 8 0 from rfl);have H8:=A h8;clear h8
 go_enter func307,ntmps307
 go_wp2_with fail
 refine(HLR.o _).mono ?_
 rintro e w2 ⟨rfl,hn2⟩;have HA2:=A (HA.o.on hn2);have HN2:=A (HN.o.then hn2);clear hn2 HA HN HLR;generalize ZW ns=q at *;obtain⟨st,ln⟩:=q;simp only at *;obtain⟨hst,hln1,hln8⟩:=hrg;go_wp2
 go_loopw [5,6] (fun t i wr=>∃(f k:Nat) (txt:BA),t=J txt/\i=I X k/\8<=k+f/\k<=16/\f<=8/\txt.size+5*f<=40/\Zi9 ns=tl txt++Zi8 ns st ln f k/\Nx w2 wr) (fun _ i _=>8-(intOf i).toNat)
 case atStart=>exact⟨8,0,⟨#[]⟩,rfl,rfl,by omega,by omega,by omega,by decide,by rw[HD.o];rfl,Nx.rfl⟩
 case round=>
  obtain⟨f,k,txt,rfl,rfl,hf,hk,hf8,hsz,hE,hnx⟩:=hrel;have HN3:=A (HN2.o.then hnx);have HNX:=A hnx;have HA3:=A (HA2.o.on hnx);clear hnx
  by_cases hlt:k<8
  .cases f with
   | zero=>omega
   | succ f=>
    rw[Zi8,ifN (by omega)]at hE
    by_cases hks:k=st
    .have HE:=A (hE.trans (by rw[ifP hks]))
     have hks':((k:Int)==(st:Int))=true:=by rw[hks];simp
     clear hE hks;go_wp2
     go_roundw
     exact⟨f,k+ln,_,rfl,by go_num,by omega,by omega,by omega,by rw[Zk];show txt.size+2+_<=_;omega,by rw[HE.o,Zd,Xi];rfl,HNX.o⟩
     simp[intOf];omega
    .rw[ifN hks]at hE
     have hks':((k:Int)==(st:Int))=false:=beq_eq_false_iff_ne.2 (by omega)
     have hkl:k<ns.length:=by have:=H8.o;omega
     have hck:=HA3.o.cell hkl;have hrx:=HP.o _ (Xx hkl);rw[ZyZ hkl]at hE;have HE:=A hE;clear hE hks;generalize ns[k]=x at *
     obtain⟨xn,rfl⟩:∃xn:Nat,x=(xn:Int):=⟨x.toNat,by omega⟩
     have hxl:xn<=65535:=by omega
     rw[XH]at HE;have HTB3:=A (HTB.o.on HN3.o);have hx4:=Zf7 xn
     by_cases hc:0<k/\k≠st+ln
     .have HE2:=A (HE.o.trans (by rw[ifP hc]))
      obtain⟨hc1,hc2⟩:=hc
      have hc2':((k:Int) != (st:Int)+(ln:Int))=true:=Zjv (beq_eq_false_iff_ne.2 (by omega))
      clear HE;go_wp2_with fail
      refine(Zln xn hxl _ HTB3.o.2.1).mono ?_
      rintro e w4 ⟨r,rfl,hr,hn4⟩
      have hrs:r.size<=4:=by rw[<-Za,hr];omega
      have HR:=A hr;have HN4:=A (HNX.o.then hn4);clear hr hn4;go_wp2
      go_roundw
      exact⟨f,k+1,_,rfl,by go_num,by omega,by omega,by omega,by rw[Zk,Zk];show txt.size+1+_+_<=_;omega,by rw[HE2.o,Zd,Zd,HR.o,Xi,Xi,Xi];rfl,HN4.o⟩
      simp[intOf];omega
     .have HE2:=A (HE.o.trans (by rw[ifN hc,Xm]))
      clear HE
      by_cases hk0:0<k
      focus
       have hc2:k=st+ln:=by
        rcases Nat.decEq k (st+ln)with h|h
        .exact absurd ⟨hk0,h⟩ hc
        .exact h
       have hc2':((k:Int) != (st:Int)+(ln:Int))=false:=ZuX (by rw[beq_iff_eq];omega)
       clear hc hc2
      rotate_left
      focus
       have hk00:k<=0:=by omega
       clear hc
      all_goals
       go_wp2_with fail
       refine(Zln xn hxl _ HTB3.o.2.1).mono ?_
       rintro e w4 ⟨r,rfl,hr,hn4⟩
       have hrs:r.size<=4:=by rw[<-Za,hr];omega
       have HR:=A hr;have HN4:=A (HNX.o.then hn4);clear hr hn4;go_wp2
       go_roundw
       exact⟨f,k+1,_,rfl,by go_num,by omega,by omega,by omega,by rw[Zk];omega,by rw[HE2.o,Zd,HR.o,Xi],HN4.o⟩
       simp[intOf];omega
  .have HE:=A (show tl txt=Zi9 ns by rw[hE,Zyi _ _ _ _ _ (by omega),Xh])
   clear hE;go_wp2;go_ret;exact⟨_,rfl,HE.o,HN3.o⟩
def GOk(ns:List Int):Prop:=∀x∈ns,0<=x/\x<=65535
theorem GOk.set{ns:LI}(h:GOk ns)(i:Nat){x:Int}(h0:0<=x)(h1:x<=65535):GOk (ns.set i x):=by
 intro y hy;rcases List.mem_or_eq_of_mem_set hy with h2|h2
 .exact h y h2
 .subst h2;exact⟨h0,h1⟩
theorem Znf{g:LI×Nat}(h:GOk g.1){x:Int}(h0:0<=x)(h1:x<=65535):GOk (Zf5 g x).1.1:=by
 unfold Zf5
 split
 .exact h.set _ h0 h1
 .exact h
theorem Zxo(most:Int)(l:LB):∀n q,0<=n->numGo 16 most n l=some q->0<=q/\q+1<=(n+1)*16^l.length:=by
 induction l with
 | nil=>intro n q h e;rw[numGo]at e;cases e;exact⟨h,by simp⟩
 | cons c r ih=>
  intro n q h e;rw[numGo]at e
  split at e
  .rename_i hd
   have hr:=Zbn (c.toNat:Int) 16;have h15:=hr.2 hd
   have hn':0<=(if n<=most then n*16+(ZK (c.toNat:Int) 16).1 else n)/\(if n<=most then n*16+(ZK (c.toNat:Int) 16).1 else n)+1<=(n+1)*16:=by split<;>omega
   obtain⟨h1,h2⟩:=ih _ q hn'.1 e
   refine⟨h1,XV h2 ?_⟩
   rw[Xd,XW,show(n+1)*((16:Int)^r.length*16)=((n+1)*16)*16^r.length by rw[XX ((16:Int)^r.length),XS]]
   exact Xz hn'.2 (XQ (by decide))
  .cases e
theorem Zja{l:LB}(h4:l.length<=4):0<=(Zp l 16 65535).1/\(Zp l 16 65535).1<=65535:=by
 unfold Zp
 split
 .exact⟨by decide,by decide⟩
 .split
  .exact⟨by decide,by decide⟩
  .rename_i n e
   obtain⟨h1,h2⟩:=Zxo 65535 l 0 n (by decide) e
   have h3:(16:Int)^l.length<=65536:=by rcases(show l.length=0∨l.length=1∨l.length=2∨l.length=3∨l.length=4 by omega)with h|h|h|h|h<;>rw[h]<;>decide
   have h5:n<=65535:=by omega
   rw[ifN (by omega)]
   exact⟨h1,h5⟩
theorem Zst{g:LI×Nat}(h:GOk g.1)(l:LB):GOk (ZbR g l).1.1:=by
 unfold ZbR
 split
 .exact h
 .rename_i hh
  obtain⟨h0,h1⟩:=Zja (l:=l) (by omega)
  exact Znf h h0 h1
theorem Zu9(ps:List LB):∀v q,0<=v->d4Go v ps=some q->0<=q/\q+1<=(v+1)*256^ps.length:=by
 induction ps with
 | nil=>intro n q h e;rw[d4Go]at e;cases e;exact⟨h,by simp⟩
 | cons c r ih=>
  intro n q h e;rw[d4Go]at e
  split at e
  .have hr:=Zlj c
   obtain⟨h1,h2⟩:=ih _ q (by omega) e
   refine⟨h1,XV h2 ?_⟩
   rw[Xd,XW,show(n+1)*((256:Int)^r.length*256)=((n+1)*256)*256^r.length by rw[XX ((256:Int)^r.length),XS]]
   exact Xz (by omega) (XQ (by decide))
  .cases e
theorem Zsu{g:LI×Nat}(h:GOk g.1)(l:LB):GOk (Zba g l).1.1:=by
 unfold Zba
 split
 .exact h
 .rename_i h4
  split
  .exact h
  .rename_i v e
   obtain⟨h1,h2⟩:=Zu9 _ 0 v (by decide) e
   have h4':(bsplit 46 l).length=4:=by omega
   rw[h4']at h2
   have h3:v<=4294967295:=by have:(256:Int)^4=4294967296:=by decide
                             omega
   have hA:=Znf h (x:=v/65536) (by omega) (by omega)
   split
   .exact hA
   .exact Znf hA (by omega) (by omega)
theorem grpGo_ok(en:Bool)(ps:List LB):∀g q,GOk g.1->grpGo en g ps=some q->GOk q.1:=by
 induction ps with
 | nil=>intro g q h e;rw[grpGo]at e;cases e;exact h
 | cons p r ih=>
  intro g q h e;rw[grpGo]at e
  split at e
  .split at e
   .exact ih _ _ (Zsu h p) e
   .cases e
  .split at e
   .exact ih _ _ (Zst h p) e
   .cases e
theorem zero_ok:GOk zeros8:=by intro x hx;simp[zeros8]at hx;omega
theorem ZgE(l:LB)(en:Bool):GOk (ZA l en).1.1:=by
 unfold ZA
 split
 .exact zero_ok
 .split
  .exact zero_ok
  .rename_i g e
   exact grpGo_ok en _ _ _ zero_ok e
theorem putGo_ok(r:LI):∀ns i,GOk ns->GOk r->GOk (putGo ns i r):=by
 induction r with
 | nil=>intro ns i h _;exact h
 | cons x r ih=>
  intro ns i h hr;rw[putGo];have hx:=hr x (Xt ..)
  exact ih _ _ (h.set i hx.1 hx.2) (fun y hy=>hr y (Xp _ hy))
theorem ZwX(l:LB):GOk (ip6 l).1:=by
 unfold ip6 Zjw
 split
 .split
  .exact zero_ok
  .exact ZgE l true
 .split
  .exact zero_ok
  .exact putGo_ok _ _ _ (ZgE _ _) (fun x hx=>ZgE _ _ x (Xq hx))
def Zb1(l:List UInt8):List UInt8×Int:=
 if l.length<2∨¬((l.getD (l.length-1) 0).toNat:Int)=93 then([],2)
 else if(ip6 ((l.take (l.length-1)).drop 1)).2=true then([91]++Zi9 (ip6 ((l.take (l.length-1)).drop 1)).1++[93],0)else([],2)
theorem ZwY(ns:LI)(st ln:Nat):∀f i,(Zi8 ns st ln f i).length<=5*f:=by
 intro f
 induction f with
 | zero=>intro i;simp[Zi8]
 | succ f ih=>
  intro i;rw[Zi8]
  split
  .simp
  .split
   .have:=ih (i+ln)
    simp only[Xc,Xd,XL]
    omega
   .have:=ih (i+1)
    have h4:=Zf7 (ns.getD i 0).toNat
    have h1:(if 0<i/\i≠st+ln then [(58:UInt8)]else []).length<=1:=by split<;>simp
    simp only[Xc]
    omega
theorem Zlq(s:BA)(w:World)(hs:s.size<=1000000)(ht:Tb w):Calls prog 298 #[J s] w fun e w'=>∃r:BA,e=Y (.tuple #[J r,I X (Zb1 (tl s)).2])/\tl r=(Zb1 (tl s)).1/\Nx w w':=by
 have HD:=A (show Zb1 (tl s)=if s.size<2∨¬(((tl s).getD (s.size-1) 0).toNat:Int)=93 then([],2)
  else if(ip6 (((tl s).take (s.size-1)).drop 1)).2=true then([91]++Zi9 (ip6 (((tl s).take (s.size-1)).drop 1)).1++[93],0)else([],2)by rw[<-Za];rfl)
 have HTB:=A ht;clear ht
 by_cases h2:s.size<2
 focus
  have HE:=A (HD.o.trans (ifP (XT h2)))
 rotate_left
 focus
  have hz:s.size-1<s.size:=by omega
  have hb:=bb (s[s.size-1]'hz);rw[Zeb s (s.size-1) hz]at HD
  cases h93:(((s[s.size-1]'hz).toNat:Int)==93)
  focus
   have HE:=A (HD.o.trans (ifP (XI (by simpa using h93))))
   have h93':=Zjv h93
  rotate_left
  .have HE:=A (HD.o.trans (ifN (by rintro(h|h);exact h2 h;exact h (by simpa using h93))))
   have h93':=ZuX h93;rw[<-tl_extract s 1 (s.size-1)]at HE;have HOK:=A (ZwX (tl (s.extract 1 (s.size-1))));clear HD
   go_enter func298,ntmps298
   go_wp2_with fail
   refine(Zxi (s.extract 1 (s.size-1)) _ (Xe (Zf4 s _ _) hs)).mono ?_
   rintro e w1 ⟨a0,a1,a2,a3,a4,a5,a6,a7,ok,rfl,hq,hn⟩;rw[hq]at HE HOK;simp only at HE HOK;have HN:=A hn;have HTB1:=A (HTB.o.on hn);clear hq hn
   cases ok
   .have HE2:=A (HE.o.trans (ifN (by decide)))
    clear HE;go_wp2;go_ret2
    exact⟨⟨#[]⟩,by rw[HE2.o];rfl,by rw[HE2.o];rfl,HN.o.alloc _⟩
   .have HE2:=A (HE.o.trans (ifP rfl))
    clear HE;go_wp2_with fail
    refine(Zss a0 a1 a2 a3 a4 a5 a6 a7 _ (HTB1.o.on (Nx.rfl.alloc _)) HOK.o).mono ?_
    rintro e w2 ⟨r,rfl,hr,hn2⟩
    have hrs:r.size<=1000:=by
     have:=ZwY [a0,a1,a2,a3,a4,a5,a6,a7] (ZW [a0,a1,a2,a3,a4,a5,a6,a7]).1 (ZW [a0,a1,a2,a3,a4,a5,a6,a7]).2 8 0;rw[<-Za,hr];unfold Zi9
     omega
    have HR:=A hr;have HN2:=A ((HN.o.alloc _).then hn2);clear hr hn2;go_wp2;go_ret2
    exact⟨(⟨#[91]⟩:BA)++r++(⟨#[93]⟩:BA),by rw[HE2.o];rfl,by rw[HE2.o,Zd,Zd,HR.o];rfl,HN2.o⟩
 all_goals
  clear HD
  go_enter func298,ntmps298
  go_wp2;go_ret2
  exact⟨⟨#[]⟩,by rw[HE.o];rfl,by rw[HE.o];rfl,Nx.rfl⟩
def Zjb(d:Nat):UInt8:=UInt8.ofNat (48+d)
def ZjB(n:Nat):List UInt8:=
 if n<10 then [Zjb n]else if n<100 then [Zjb (n/10),Zjb (n%10)]else if n<1000 then [Zjb (n/100),Zjb (n/10%10),Zjb (n%10)]
 else if n<10000 then [Zjb (n/1000),Zjb (n/100%10),Zjb (n/10%10),Zjb (n%10)]else [Zjb (n/10000),Zjb (n/1000%10),Zjb (n/100%10),Zjb (n/10%10),Zjb (n%10)]
theorem ZhS{n:Nat}(h:¬n<10):Lib.decDigits n=Lib.decDigits (n/10)++[Zjb (n%10)]:=by rw[Lib.decDigits,dif_neg h];rfl
theorem Zf8{n:Nat}(h:n<10):Lib.decDigits n=[Zjb n]:=by rw[Lib.decDigits,dif_pos h];rfl
theorem Zsv(n:Nat)(h:n<=99999):Lib.decDigits n=ZjB n:=by
 unfold ZjB
 by_cases h1:n<10
 .rw[ifP h1,Zf8 h1]
 rw[ifN h1,ZhS h1]
 by_cases h2:n<100
 .rw[ifP h2,Zf8 (by omega)];rfl
 rw[ifN h2,ZhS (by omega),show n/10/10=n/100 by omega]
 by_cases h3:n<1000
 .rw[ifP h3,Zf8 (by omega)];rfl
 rw[ifN h3,ZhS (by omega),show n/100/10=n/1000 by omega]
 by_cases h4:n<10000
 .rw[ifP h4,Zf8 (by omega)];rfl
 rw[ifN h4,ZhS (by omega),show n/1000/10=n/10000 by omega,Zf8 (by omega)]
 rfl
theorem Zf9(n:Nat):(ZjB n).length<=5:=by
 unfold ZjB
 split
 .simp
 .split
  .simp
  .split
   .simp
   .split<;>simp
theorem ZoX(n:Nat)(hn:n<=65535)(w:World)(h:Tb w):Calls prog 320 #[I X n,I X 10] w fun e w'=>∃r:BA,e=Y (J r)/\tl r=ZjB n/\Nx w w':=by
 refine(Zsr n (by omega) w h).mono ?_
 rintro e w' ⟨r,rfl,hr,hn1⟩
 exact⟨r,rfl,by rw[hr,Zsv n (by omega)],hn1⟩
theorem Zsw(n:Nat)(hn:n<=65535)(w:World)(h:Tb w):Calls prog 147 #[I X n] w fun e w'=>∃r:BA,e=Y (J r)/\tl r=ZjB n/\Nx w w':=by
 refine(Zu7 n (by omega) w h).mono ?_
 rintro e w' ⟨r,rfl,hr,hn1⟩
 exact⟨r,rfl,by rw[hr,Zsv n (by omega)],hn1⟩
def Zng(v:Nat):Nat->List UInt8
 | 0=>[]
 | k+1=>ZjB (v/256^k%256)++(if 0<k then [46]++Zng v k else Zng v k)
def ZeH(v:Nat):List UInt8:=Zng v 4
theorem ZoY(v:Nat):∀k,(Zng v k).length<=6*k:=by
 intro k
 induction k with
 | zero=>simp[Zng]
 | succ k ih=>
  rw[Zng,Xc];have:=Zf9 (v/256^k%256)
  split
  .simp only[Xc,Xd,XL];omega
  .omega
theorem Znh(v:Nat)(hv:v<=1099511627776)(w:World)(ht:Tb w):Calls prog 314 #[I X v] w fun e w'=>∃r:BA,e=Y (J r)/\tl r=ZeH v/\Nx w w':=by
 have HTB:=A ht;clear ht
 go_enter func314,ntmps314
 go_wp2
 go_loopw [3,4,5] (fun t r i wr=>∃(k:Nat) (txt:BA) (rest:Nat),k<=4/\t=J txt/\r=I X rest/\i=I X k/\rest=v/256^k/\tl txt=Zng v k/\Nx w wr) (fun _ _ i _=>4-(intOf i).toNat)
 case atStart=>exact⟨0,⟨#[]⟩,v,by omega,rfl,rfl,rfl,by simp,rfl,Nx.rfl⟩
 case round=>
  obtain⟨k,txt,rest,hk,rfl,rfl,rfl,hrest,hE,hnx⟩:=hrel
  have hrl:rest<=1099511627776:=by rw[hrest];exact Xe (Nat.div_le_self _ _) hv
  have hsz:txt.size<=100:=by have:=ZoY v k;rw[<-hE,Za]at this;omega
  have HR:=A hrest;have HE:=A hE;have HN:=A hnx;clear hrest hE hnx
  by_cases hlt:k<4
  .have HDV:=A (show Int.tdiv (rest:Int) 256=((rest/256:Nat):Int)by rw[Int.tdiv_eq_ediv_of_nonneg (by omega)];omega)
   have HNR:=A (show rest/256=v/256^(k+1)by rw[HR.o,Nat.div_div_eq_div_mul,Nat.pow_succ])
   have HS:=A (show Zng v (k+1)=ZjB (rest%256)++(if 0<k then [46]++Zng v k else Zng v k)by rw[Zng,HR.o])
   by_cases hk0:0<k
   .have HS2:=A (HS.o.trans (by rw[ifP hk0]))
    clear HS;go_wp2_with fail
    refine(ZoX (rest%256) (by omega) _ (HTB.o.on HN.o)).mono ?_
    rintro e w1 ⟨r,rfl,hr,hn1⟩
    have hrs:r.size<=5:=by rw[<-Za,hr];exact Zf9 _
    have HRR:=A hr;have HN1:=A (HN.o.then hn1);clear hr hn1;go_wp2
    go_roundw
    exact⟨k+1,_,rest/256,by omega,rfl,by simp,by go_num,HNR.o,by rw[HS2.o,Zd,Zd,HRR.o,HE.o];rfl,HN1.o⟩
    simp[intOf];omega
   .have HS2:=A (HS.o.trans (by rw[ifN hk0]))
    clear HS;go_wp2_with fail
    refine(ZoX (rest%256) (by omega) _ (HTB.o.on HN.o)).mono ?_
    rintro e w1 ⟨r,rfl,hr,hn1⟩
    have hrs:r.size<=5:=by rw[<-Za,hr];exact Zf9 _
    have HRR:=A hr;have HN1:=A (HN.o.then hn1);clear hr hn1;go_wp2
    go_roundw
    exact⟨k+1,_,rest/256,by omega,rfl,by simp,by go_num,HNR.o,by rw[HS2.o,Zd,HRR.o,HE.o],HN1.o⟩
    simp[intOf];omega
  .have HE2:=A (show tl txt=ZeH v by rw[HE.o,show k=4 by omega];rfl)
   go_wp2;go_ret;exact⟨_,rfl,HE2.o,HN.o⟩
theorem ZoZ(l:LB):(ZD l).length<=l.length:=by
 generalize hn:l.length=n
 induction n using Nat.strongRecOn generalizing l with
 | ind n ih=>
  cases l with
  | nil=>rw[ZD];simp
  | cons c r=>
   rw[Xd]at hn
   have key:ZD (c::r)=if(Zcg (c::r)).2 then toB (Zcg (c::r)).1::ZD (r.drop 2)else c::ZD r:=by rw[ZD]
   rw[key]
   split
   .have:=ih (r.drop 2).length (by rw[Xf];omega) _ rfl
    rw[Xf]at this;rw[Xd]
    omega
   .have:=ih r.length (by omega) _ rfl
    rw[Xd]
    omega
theorem Zni(l:LB):(lower l).length=l.length:=by simp[lower]
def Zft(l:List UInt8):List UInt8×Int:=if(l.any fun b=>among b.toNat ZhJ)=true then([],2)else(encB (tl (Zbo 0)) (clean l),0)
theorem Zsx(s:BA)(w:World)(hs:s.size<=1000000):Calls prog 300 #[J s] w fun e w'=>∃r:BA,e=Y (.tuple #[J r,I X (Zft (tl s)).2])/\tl r=(Zft (tl s)).1/\Nx w w':=by
 have HD:=A (show Zft (tl s)=if((tl s).any fun b=>among b.toNat ZhJ)=true then([],2)else(encB (tl (Zbo 0)) (clean (tl s)),0)from rfl)
 go_enter func300,ntmps300
 go_wp2
 go_loop [4] (fun i=>∃k:Nat,k<=s.size/\i=I X k/\(((tl s).take k).any fun b=>among b.toNat ZhJ)=false) (fun i=>s.size-(intOf i).toNat)
 case atStart=>exact⟨0,Xr _,rfl,rfl⟩
 case round=>
  obtain⟨k,hk,rfl,ha⟩:=hrel;have HA:=A ha;clear ha
  by_cases hlt:k<s.size
  .have hb:=bb s[k]
   cases hA:among (s[k].toNat:Int) ZhJ
   .have HH:=A (show(((tl s).take (k+1)).any fun b=>among b.toNat ZhJ)=false by rw[Zt s k hlt,any_snoc,HA.o,hA];rfl)
    have HA2:=A hA;clear hA
    go_wp2_with (go_at_call 194;refine(ZaQ _ _ _ (Ze (by decide))).mono ?_;rintro e w' ⟨rfl,rfl⟩;rw[show among (s[k].toNat:Int) (tl ⟨#[0,9,10,13,32,35,47,58,60,62,63,64,91,92,93,94,124]⟩)=false from HA2.o])
    go_round
    exact⟨k+1,by omega,by go_num,HH.o⟩
    simp[intOf];omega
   .have HE:=A (HD.o.trans (ifP (Zkr (fun b=>among b.toNat ZhJ) s k hlt hA)))
    have HA2:=A hA;clear hA
    go_wp2_with (go_at_call 194;refine(ZaQ _ _ _ (Ze (by decide))).mono ?_;rintro e w' ⟨rfl,rfl⟩;rw[show among (s[k].toNat:Int) (tl ⟨#[0,9,10,13,32,35,47,58,60,62,63,64,91,92,93,94,124]⟩)=true from HA2.o])
    go_ret2
    exact⟨⟨#[]⟩,by rw[HE.o];rfl,by rw[HE.o];rfl,Nx.rfl⟩
  .have HE:=A (HD.o.trans (ifN (by have h:=HA.o;rw[ZQ _ _ (by omega)]at h;rw[h];decide)))
   go_wp2_with fail
   refine(Za1 s 0 _ hs).mono ?_
   rintro e w1 ⟨r,rfl,hr,hn⟩;have HR:=A hr;have HN:=A hn;clear hr hn;go_wp2;go_ret2
   exact⟨r,by rw[HE.o];rfl,by rw[HE.o];exact HR.o,HN.o⟩
def Zhf(d:List UInt8)(qs:List (List UInt8)):List UInt8×Int:=
 if ZdH qs=false then(d,0)else if(ip4 qs).2=true then(ZeH (ip4 qs).1.toNat,0)else([],2)
def ZcJ(l:List UInt8):List UInt8×Int:=
 if(beyondB (lower (ZD l))||Zxg (bsplit 46 (lower (ZD l))))=true then([],3)
 else if plainDom (lower (ZD l))=false then([],2)
 else Zhf (lower (ZD l)) (Zh6 (bsplit 46 (lower (ZD l))))
theorem Zsy(ps:List LB):∀room value,0<=room->room<=4294967296->0<=value->0<=(ip4Go ps room value).1/\(ip4Go ps room value).1<=value+ps.length*4294967296:=by
 induction ps with
 | nil=>intro room value h0 h1 h2;rw[ip4Go];exact⟨h2,by simp⟩
 | cons p r ih=>
  intro room value h0 h1 h2;rw[ip4Go,Xd]
  split
  .exact⟨by decide,by show(0:Int)<=_;omega⟩
  .split
   .exact⟨by decide,by show(0:Int)<=_;omega⟩
   .rename_i hb
    have hr:=ZfE p
    have hlt:(ZJ p).1<room:=Int.not_le.1 (fun h=>hb (XT h))
    split
    .rename_i hne
     have h255:¬255<(ZJ p).1:=fun h=>hb (XI ⟨hne,h⟩)
     have hd0:0<=room/256:=by omega
     have hd1:room/256<=16777216:=by omega
     have hm0:0<=(ZJ p).1*(room/256):=Int.mul_nonneg hr.1 hd0
     have hm1:(ZJ p).1*(room/256)<=255*16777216:=Int.mul_le_mul (by omega) hd1 hd0 (by decide)
     have:=ih (room/256) (value+(ZJ p).1*(room/256)) hd0 (by omega) (by omega)
     exact⟨this.1,by omega⟩
    .have:=ih room (value+(ZJ p).1) h0 h1 (by omega)
     exact⟨this.1,by omega⟩
theorem Zxp(ps:List LB):0<=(ip4 ps).1/\(ip4 ps).1<=17179869184:=by
 unfold ip4
 split
 .exact⟨by decide,by decide⟩
 .have:=Zsy ps 4294967296 0 (by decide) (by decide) (by decide)
  exact⟨this.1,by omega⟩
theorem Zqp(s:BA)(w:World)(hs:s.size<=1000000)(ht:Tb w):Calls prog 299 #[J s] w fun e w'=>∃r:BA,e=Y (.tuple #[J r,I X (ZcJ (tl s)).2])/\tl r=(ZcJ (tl s)).1/\Nx w w':=by
 have HTB:=A ht;clear ht
 go_enter func299,ntmps299
 go_wp2_with fail
 refine(Zjs s _ hs).mono ?_
 rintro e w1 ⟨dec,rfl,hdec,hn1⟩
 have hds:dec.size<=1000000:=by have:=ZoZ (tl s);rw[<-hdec,Za,Za]at this;omega
 go_wp2_with fail
 refine(Zjr dec _ hds).mono ?_
 rintro e w2 ⟨d,rfl,hd,hn2⟩
 have hdd:d.size<=1000000:=by have:=Zni (tl dec);rw[<-hd,Za,Za]at this;omega
 have HD:=A (show ZcJ (tl s)=if(beyondB (tl d)||Zxg (bsplit 46 (tl d)))=true then([],3)else if plainDom (tl d)=false then([],2)else Zhf (tl d) (Zh6 (bsplit 46 (tl d)))by
  unfold ZcJ;rw[hd,hdec])
 have HN2:=A (hn1.then hn2);clear hdec hn1 hd hn2;go_wp2_with fail
 refine(ZeG d 46 _ hdd).mono ?_
 rintro e w3 ⟨v,bs,rfl,hv,hbs,hn3⟩;rw[<-hbs]at HD
 have HSZ:=A (show ∀b∈bs,b.size<=1000000 from fun b hb=>Xe (ZfG hbs b hb) hdd)
 have HN3:=A (HN2.o.then hn3);have HV:=A hv;clear hbs hn3 hv HN2
 cases hbe:beyondB (tl d)
 focus
  cases hpu:Zxg (bs.map tl)
  focus
   have HD2:=A (HD.o.trans (ifN (by rw[hbe,hpu];decide)))
   have HBE:=A hbe;have HPU:=A hpu;clear HD hbe hpu
   cases hpl:plainDom (tl d)
   focus
    have HE:=A (HD2.o.trans (ifP hpl));have HPL:=A hpl;clear HD2 hpl
    go_wp2_with (first|(go_at_call 308;refine(Ze9 _ _ (Ze hdd)).mono ?_;rintro e w' ⟨rfl,rfl⟩;rw[HBE.o])|(go_at_call 309;refine(ZhQ _ bs _ HV.o HSZ.o).mono ?_;rintro e w' ⟨rfl,rfl⟩;rw[HPU.o])|(go_at_call 310;refine(Zhd _ _ (Ze hdd)).mono ?_;rintro e w' ⟨rfl,rfl⟩;rw[HPL.o]))
   rotate_left
   .have HE:=A (HD2.o.trans (ifN (by rw[hpl];decide)))
    have HPL:=A hpl;rw[<-Zse]at HE;clear HD2 hpl
    go_wp2_with (first|(go_at_call 308;refine(Ze9 _ _ (Ze hdd)).mono ?_;rintro e w' ⟨rfl,rfl⟩;rw[HBE.o])|(go_at_call 309;refine(ZhQ _ bs _ HV.o HSZ.o).mono ?_;rintro e w' ⟨rfl,rfl⟩;rw[HPU.o])|(go_at_call 310;refine(Zhd _ _ (Ze hdd)).mono ?_;rintro e w' ⟨rfl,rfl⟩;rw[HPL.o]))
    refine(Zsg _ bs _ HV.o).mono ?_
    rintro e w' ⟨v2,rfl,hv2,rfl⟩;have HV2:=A hv2
    have HSZ2:=A (show ∀b∈ZgA bs,b.size<=1000000 from fun b hb=>HSZ.o b (Zsf hb))
    clear hv2;generalize ZgA bs=qs at *
    have HDE:=A (show Zhf (tl d) (qs.map tl)=if ZdH (qs.map tl)=false then(tl d,0)else if(ip4 (qs.map tl)).2=true then(ZeH (ip4 (qs.map tl)).1.toNat,0)else([],2)from rfl)
    cases hen:ZdH (qs.map tl)
    .have HE2:=A (HE.o.trans (HDE.o.trans (ifP hen)))
     have HEN:=A hen;clear hen HE HDE
     go_wp2_with (go_at_call 312;refine(ZfF _ qs _ HV2.o HSZ2.o).mono ?_;rintro e w' ⟨rfl,rfl⟩;rw[HEN.o])
     go_ret2
     exact⟨d,by rw[HE2.o];rfl,by rw[HE2.o],HN3.o⟩
    .have HE2:=A (HE.o.trans (HDE.o.trans (ifN (by rw[hen];decide))))
     have HEN:=A hen;have hrg:=Zxp (qs.map tl);clear hen HE HDE;generalize hq:ip4 (qs.map tl)=q at *;have HQ:=A hq;clear hq;obtain⟨val,ok⟩:=q;simp only at HE2 hrg
     obtain⟨vn,rfl⟩:∃vn:Nat,val=(vn:Int):=⟨val.toNat,by omega⟩
     rw[XH]at HE2
     have hvn:vn<=1099511627776:=by omega
     clear hrg
     cases ok
     .have HE3:=A (HE2.o.trans (ifN (by decide)))
      clear HE2
      go_wp2_with (first|(go_at_call 312;refine(ZfF _ qs _ HV2.o HSZ2.o).mono ?_;rintro e w' ⟨rfl,rfl⟩;rw[HEN.o])|(go_at_call 313;refine(Zsh _ qs _ HV2.o HSZ2.o).mono ?_;rintro e w' ⟨rfl,rfl⟩;rw[HQ.o]))
      go_ret2
      exact⟨⟨#[]⟩,by rw[HE3.o];rfl,by rw[HE3.o];rfl,HN3.o⟩
     .have HE3:=A (HE2.o.trans (ifP rfl))
      clear HE2
      go_wp2_with (first|(go_at_call 312;refine(ZfF _ qs _ HV2.o HSZ2.o).mono ?_;rintro e w' ⟨rfl,rfl⟩;rw[HEN.o])|(go_at_call 313;refine(Zsh _ qs _ HV2.o HSZ2.o).mono ?_;rintro e w' ⟨rfl,rfl⟩;rw[HQ.o])|(go_at_call 314;refine(Znh vn hvn _ (HTB.o.on HN3.o)).mono ?_;rintro e w4 ⟨r,rfl,hr,hn4⟩;have HR:=A hr;have HN4:=A (HN3.o.then hn4);clear hr hn4))
      go_ret2
      exact⟨r,by rw[HE3.o];rfl,by rw[HE3.o];exact HR.o,HN4.o⟩
  rotate_left
  focus
   have HE:=A (HD.o.trans (ifP (by rw[hpu];simp)))
   have HBE:=A hbe;have HPU:=A hpu;clear HD hbe hpu
   go_wp2_with (first|(go_at_call 308;refine(Ze9 _ _ (Ze hdd)).mono ?_;rintro e w' ⟨rfl,rfl⟩;rw[HBE.o])|(go_at_call 309;refine(ZhQ _ bs _ HV.o HSZ.o).mono ?_;rintro e w' ⟨rfl,rfl⟩;rw[HPU.o]))
 rotate_left 2
 focus
  have HE:=A (HD.o.trans (ifP (by rw[hbe];simp)))
  have HBE:=A hbe;clear HD hbe
  go_wp2_with (first|(go_at_call 308;refine(Ze9 _ _ (Ze hdd)).mono ?_;rintro e w' ⟨rfl,rfl⟩;rw[HBE.o])|(go_at_call 309;refine(ZhQ _ bs _ HV.o HSZ.o).mono ?_;rintro e w' ⟨rfl,rfl⟩))
 all_goals
  go_ret2
  exact⟨⟨#[]⟩,by rw[HE.o];rfl,by rw[HE.o];rfl,HN3.o⟩
def ZaP(l:List UInt8)(sp:Bool):List UInt8×Int:=if((l.getD 0 0).toNat:Int)=91 then Zb1 l else if sp=true then ZcJ l else Zft l
theorem Zlr(s:BA)(sp:Bool)(w:World)(hs:s.size<=1000000)(ht:Tb w):Calls prog 277 #[J s,C sp] w fun e w'=>∃r:BA,e=Y (.tuple #[J r,I X (ZaP (tl s) sp).2])/\tl r=(ZaP (tl s) sp).1/\Nx w w':=by
 have HD:=A (show ZaP (tl s) sp=if(((tl s).getD 0 0).toNat:Int)=91 then Zb1 (tl s)else if sp=true then ZcJ (tl s)else Zft (tl s)from rfl)
 by_cases h0:s.size=0
 focus
  have HE:=A (HD.o.trans (ifN (by rw[Zz h0];decide)))
  have h0':=Zo h0;clear HD h0
 rotate_left
 focus
  have hpos:0<s.size:=by omega
  have h0':=Zj h0;rw[Zeb s 0 hpos]at HD;have hb:=bb (s[0]'hpos);clear h0
  cases h91:(((s[0]'hpos).toNat:Int)==91)
  focus
   have HE:=A (HD.o.trans (ifN (by simpa using h91)))
   clear HD
  rotate_left
  .have HE:=A (HD.o.trans (ifP (by simpa using h91)))
   clear HD
   go_enter func277,ntmps277
   go_wp2_with (go_at_call 298;refine(Zlq s _ hs ht).mono ?_;rintro e w1 ⟨r,rfl,hr,hn⟩;have HR:=A hr;have HN:=A hn;clear hr hn)
   go_ret2
   exact⟨r,by rw[HE.o];rfl,by rw[HE.o];exact HR.o,HN.o⟩
 all_goals
  cases sp
  .have HE2:Hid (ZaP (tl s) false=Zft (tl s)):=A (HE.o.trans (ifN (by decide)))
   clear HE
   go_enter func277,ntmps277
   go_wp2_with (go_at_call 300;refine(Zsx s _ hs).mono ?_;rintro e w1 ⟨r,rfl,hr,hn⟩;have HR:=A hr;have HN:=A hn;clear hr hn)
   go_ret2
   exact⟨r,by rw[HE2.o];rfl,by rw[HE2.o];exact HR.o,HN.o⟩
  .have HE2:Hid (ZaP (tl s) true=ZcJ (tl s)):=A (HE.o.trans (ifP rfl))
   clear HE
   go_enter func277,ntmps277
   go_wp2_with (go_at_call 299;refine(Zqp s _ hs ht).mono ?_;rintro e w1 ⟨r,rfl,hr,hn⟩;have HR:=A hr;have HN:=A hn;clear hr hn)
   go_ret2
   exact⟨r,by rw[HE2.o];rfl,by rw[HE2.o];exact HR.o,HN.o⟩
theorem Zkx{w:World}{base base':Nat}{e:TypeId}{size:Nat}{v:Value}{n:Nat}{xs:List Value}(h:w.ownsRow base e size v n xs)(hb:base'<=base):w.ownsRow base' e size v n xs:=by
 obtain⟨h1,h2|⟨g,cap,cur,h2,h3,h4⟩⟩:=h
 .exact⟨h1,.inl h2⟩
 .exact⟨h1,.inr ⟨g,cap,cur,h2,Xe hb h3,h4⟩⟩
theorem PthAt.facts6{w:World}{pb:Nat}{f s:Bool}{v:Value}(h:PthAt w pb f s v):w.cell? ⟨pb,0,none⟩=some (C f)/\w.cell? ⟨pb,1,none⟩=some (C s)/\w.cell? ⟨pb,2,none⟩=some v/\w.frozen? ⟨pb,0,none⟩=false/\w.frozen? ⟨pb,1,none⟩=false/\w.frozen? ⟨pb,2,none⟩=false:=by
 unfold PthAt at h
 refine⟨?_,?_,?_,?_,?_,?_⟩<;>simp[World.cell?,World.frozen?,h]
def TyB(w:World)(pb:Nat)(t:TypeId):Prop:=∃(cs:Array Value) (fz:Nat×Nat),w.heap[pb]?=some (O cs t fz)
theorem TyB.set{w:World}{pb:Nat}{t:TypeId}(h:TyB w pb t)(q i:Nat)(u:Value):TyB (w.setCell ⟨q,i,none⟩ u) pb t:=by
 obtain⟨cs,fz,h⟩:=h
 by_cases hq:q=pb
 .subst hq
  simp only[TyB,World.setCell,Xa,ifP,h];exact⟨_,_,rfl⟩
 .simp only[TyB,World.setCell,Xa,ifN hq]
  exact⟨cs,fz,h⟩
theorem TyB.own{w:World}{pb base:Nat}{t:TypeId}(h:TyB w pb t)(ht:t≠9){v:Value}{bs:LA}(ho:ZbK w base v bs)(i:Nat)(u:Value):ZbK (w.setCell ⟨pb,i,none⟩ u) base v bs:=by
 obtain⟨cs,fz,h⟩:=h;obtain⟨h1,⟨rfl,h3⟩|⟨g,cap,cur,rfl,h4,h5,h6⟩⟩:=ho
 .exact⟨h1,.inl ⟨rfl,h3⟩⟩
 .refine⟨h1,.inr ⟨g,cap,cur,rfl,h4,?_,h6⟩⟩
  have hne:pb≠g:=by intro e;subst e;rw[h]at h5;simp only[Option.some.injEq,Obj.cells.injEq]at h5;exact ht h5.2.1
  simp only[World.setCell,Xa,ifN hne];exact h5
theorem PthAt.ty{w:World}{pb:Nat}{f s:Bool}{v:Value}(h:PthAt w pb f s v):TyB w pb 223:=⟨_,_,h⟩
theorem PthAt.far{w:World}{pb q:Nat}{f s:Bool}{v:Value}(h:PthAt w pb f s v)(hq:q≠pb)(i:Nat)(u:Value):PthAt (w.setCell ⟨q,i,none⟩ u) pb f s v:=by unfold PthAt at *;simp only[World.setCell,Xa,ifN hq];exact h
theorem PthAt.all{w:World}{pb:Nat}{f s:Bool}{v:Value}(h:PthAt w pb f s v)(f' s':Bool)(v':Value):PthAt (((w.setCell ⟨pb,0,none⟩ (C f')).setCell ⟨pb,1,none⟩ (C s')).setCell ⟨pb,2,none⟩ v') pb f' s' v':=by
 unfold PthAt at *
 simp[World.setCell,Xa,h]
def ZE:List UInt8:=[102,105,108,101]
theorem Zia(v:Value)(bs:LA)(sch:BA)(w:World)(hv:ZbP w v bs)(hl:bs.length<=1000000):Calls prog 258 #[v,J sch] w fun e w'=>∃v',e=Y (.agg #[C (tl sch==ZE),C (Zc (tl sch)),v'])/\ZbK w' w.heap.size v' bs/\Nx w w':=by
 have HV:=A hv;clear hv
 go_enter func258,ntmps258
 have HX:=A (show(sch.toList == [102,105,108,101])=(tl sch==ZE)by rw[ByteArray.toList_eq];rfl)
 go_wp2_with (go_at_call 189;refine(Zaj _ _).mono ?_;rintro e w' ⟨rfl,rfl⟩)
 rw[HX.o]
 refine(ZoU v bs _ ?_ hl).mono ?_
 .exact HV.o.on ((Nx.rfl.alloc _).alloc _)
 rintro e w2 ⟨v2,rfl,ho,hn⟩
 have HP2:=A (PthAt.on (show PthAt ((w.alloc (O #[Value.bool false,Value.bool false,Value.slice none 0 0] 223)).alloc (O #[Value.bool (tl sch==ZE),Value.bool (Zc (tl sch)),Value.slice none 0 0] 223)) (w.heap.size+1) _ _ _ from by unfold PthAt;rw[show w.heap.size+1=(w.alloc (O #[Value.bool false,Value.bool false,Value.slice none 0 0] 223)).heap.size by simp];exact heap_alloc_new _ _) hn)
 have HR2:=A (PthAt.on (show PthAt ((w.alloc (O #[Value.bool false,Value.bool false,Value.slice none 0 0] 223)).alloc (O #[Value.bool (tl sch==ZE),Value.bool (Zc (tl sch)),Value.slice none 0 0] 223)) w.heap.size _ _ _ from PthAt.on (heap_alloc_new w _) (Nx.rfl.alloc _)) hn);have HN2:=A (show Nx w w2 from((Nx.rfl.alloc _).alloc _).then hn)
 have HO2:=A (show ZbK w2 w.heap.size v2 bs from Zkx ho (by simp;omega))
 obtain⟨ao,cap,hv2⟩:∃ao cap,v2=.slice ao bs.length cap:=by
  obtain⟨h1,⟨h2,h3⟩|⟨g',cap',cur,h2,h4⟩⟩:=HO2.o
  .exact⟨none,0,by rw[h2,h3]⟩
  .exact⟨_,_,h2⟩
 subst hv2;clear ho hn;obtain⟨hc0,hc1,hc2,hf2⟩:=HP2.o.facts;obtain⟨hd0,hd1,hd2,hg0,hg1,hg2⟩:=HR2.o.facts6;have HTP:=A (HP2.o.ty);have HTR:=A (HR2.o.ty)
 have HR3:=A ((HR2.o.far (q:=w.heap.size+1) (by omega) 2 (.slice ao bs.length cap)).all (tl sch==ZE) (Zc (tl sch)) (.slice ao bs.length cap))
 obtain⟨hs0,hs1,hs2,-,-,-⟩:=HR3.o.facts6;go_wp2
 exact bodyPost_ret (v:=.agg #[C (tl sch==ZE),C (Zc (tl sch)),.slice ao bs.length cap]) (by simp[results,results258,go_sem,hs0,hs1,hs2]) rfl ⟨_,rfl,
  ((HTR.o.set _ _ _).set _ _ _ |>.set _ _ _).own (by decide) (((HTR.o.set _ _ _).set _ _ _).own (by decide) ((HTR.o.set _ _ _).own (by decide) (HTP.o.own (by decide) HO2.o _ _) _ _) _ _) _ _,
  (((HN2.o.setCell (by simp) _).setCell (Xb _) _).setCell (Xb _) _).setCell (Xb _) _⟩
def Zec(f:Bool)(ps:List (List UInt8))(seg:List UInt8)(last:Bool):List (List UInt8):=
 if countDots seg=0 then joinL f ps seg else
 if last then(if countDots seg=2 then ZaK f ps else ps)++[[]]else(if countDots seg=2 then ZaK f ps else ps)
theorem Zco{f:Bool}{bs bs':LA}(h:bs'.map tl=ZaK f (bs.map tl)):bs'.length<=bs.length:=by
 have h1:=congrArg List.length h;have h2:=Zqn f (bs.map tl);rw[Xo]at h1 h2
 omega
theorem Zva(pb base:Nat)(f s:Bool)(v:Value)(bs:LA)(q:BA)(last:Bool)(w:World)(hp:PthAt w pb f s v)(ho:ZbK w base v bs)(hb:base<=pb)(hbw:base<=w.heap.size)(hl:bs.length<=1000000)(hq:q.size<=1000000):Calls prog 290 #[.pointer (some ⟨pb,0,none⟩),J q,C last] w fun e w'=>∃x v' bs',e=Y x/\PthAt w' pb f s v'/\ZbK w' base v' bs'/\bs'.map tl=Zec f (bs.map tl) (tl q) last/\bs'.length<=bs.length+1/\Below base w w':=by
 have HP:=A hp;have HO:=A ho;have HB:=A hb;clear hp ho hb
 have HT:=A (show Zec f (bs.map tl) (tl q) last=if countDots (tl q)=0 then joinL f (bs.map tl) (tl q)else
  if last then(if countDots (tl q)=2 then ZaK f (bs.map tl)else bs.map tl)++[[]]else(if countDots (tl q)=2 then ZaK f (bs.map tl)else bs.map tl)from rfl)
 have hd2:=Zxj 3 0 (tl q) rfl
 change countDots (tl q)<=2 at hd2
 generalize hd:countDots (tl q)=d at *;have HD:=A hd;clear hd
 have key:∀(w1 w2:World) (v1 v':Value) (cs:LA),Below base w w1->PthAt w1 pb f s v1->ZbK w2 base v' (cs++[(⟨#[]⟩:BA)])->Below base w1 w2->Kp 9 w1 w2->PthAt w2 pb f s v1/\(∀u,PthAt (w2.setCell ⟨pb,2,none⟩ u) pb f s u)/\(∀u,ZbK (w2.setCell ⟨pb,2,none⟩ u) base v' (cs++[(⟨#[]⟩:BA)]))/\(∀u,Below base w (w2.setCell ⟨pb,2,none⟩ u)):=by
  intro w1 w2 v1 v' cs h0 hp1 h1 h2 h3;have h4:=hp1.kp h3
  exact⟨h4,fun u=>h4.set u,fun u=>h4.own h1 u,fun u=>(h0.trans h2).setCell HB.o u⟩
 have KEY:=A key;clear key
 rcases(show d=0∨d=1∨d=2 by omega)with rfl|rfl|rfl
 .have HE:=A (HT.o.trans (ifP rfl))
  clear HT hd2
  go_enter func290,ntmps290
  go_wp2_with (first|(go_at_call 302;refine(Zb0 _ _ hq).mono ?_;rintro e w' ⟨rfl,rfl⟩;rw[HD.o])|(go_at_call 303;refine(Zu3 pb base f s v bs q _ HP.o HO.o HB.o hbw hl hq).mono ?_;rintro e w1 ⟨x,v1,bs1,rfl,h1,h2,h3,h4,h5⟩;have H1:=A h1;have H2:=A h2;have H3:=A h3;have H4:=A h4;have H5:=A h5;clear h1 h2 h3 h4 h5))
  exact bodyPost_end (results_none rfl _ _ _) rfl ⟨_,_,_,rfl,H1.o,H2.o,H3.o.trans HE.o.symm,H4.o,H5.o⟩
 .have HE:=A (show Zec f (bs.map tl) (tl q) last=if last then bs.map tl++[[]]else bs.map tl from by rw[HT.o,ifN (show ¬(1:Nat)=0 by decide),ifN (show ¬(1:Nat)=2 by decide)])
  clear HT hd2
  cases last
  .have HE2:=A (HE.o.trans (ifN (by decide)))
   clear HE
   go_enter func290,ntmps290
   go_wp2_with (go_at_call 302;refine(Zb0 _ _ hq).mono ?_;rintro e w' ⟨rfl,rfl⟩;rw[HD.o])
   exact bodyPost_end (results_none rfl _ _ _) rfl ⟨_,_,_,rfl,HP.o,HO.o,HE2.o.symm,by omega,Below.refl _ _⟩
  .have HE2:=A (HE.o.trans (ifP rfl))
   clear HE;obtain⟨hc0,hc1,hc2,hf2⟩:=HP.o.facts
   have hbl:bs.length<1099511627776:=by omega
   go_enter func290,ntmps290
   go_wp2_with (first|(go_at_call 302;refine(Zb0 _ _ hq).mono ?_;rintro e w' ⟨rfl,rfl⟩;rw[HD.o])|(at_builtin;go_must (refine Zds w (⟨#[]⟩:BA) rfl _ _ rfl base v bs rfl HO.o rfl hbl hbw ?_;intro v' w2 ho2 hb2 hk2;obtain⟨g2,n2,c2,rfl⟩:=ZcW ho2 (by simp);obtain⟨hp4,hps,hos,hbs⟩:=KEY.o w w2 v _ bs (Below.refl _ _) HP.o ho2 hb2 hk2;obtain⟨-,-,hd2,hg2⟩:=hp4.facts;have HPS:=A hps;have HOS:=A hos;have HBS:=A hbs;clear ho2 hb2 hk2 hp4 hps hos hbs)))
   exact bodyPost_end (results_none rfl _ _ _) rfl ⟨_,_,_,rfl,HPS.o _,HOS.o _,by rw[HE2.o,Xl];rfl,by simp,HBS.o _⟩
 .have HE:=A (show Zec f (bs.map tl) (tl q) last=if last then ZaK f (bs.map tl)++[[]]else ZaK f (bs.map tl)from by rw[HT.o,ifN (show ¬(2:Nat)=0 by decide),ifP (show(2:Nat)=2 from rfl)])
  clear HT hd2
  cases last
  .have HE2:=A (HE.o.trans (ifN (by decide)))
   clear HE
   go_enter func290,ntmps290
   go_wp2_with (first|(go_at_call 302;refine(Zb0 _ _ hq).mono ?_;rintro e w' ⟨rfl,rfl⟩;rw[HD.o])|(go_at_call 291;refine(ZfI pb base f s v bs _ HP.o HO.o HB.o hl).mono ?_;rintro e w1 ⟨x,v1,bs1,rfl,h1,h2,h3,h5⟩;have H1:=A h1;have H2:=A h2;have H3:=A h3;have H5:=A h5;clear h1 h2 h3 h5))
   exact bodyPost_end (results_none rfl _ _ _) rfl ⟨_,_,_,rfl,H1.o,H2.o,H3.o.trans HE2.o.symm,by have:=Zco H3.o;omega,H5.o⟩
  .have HE2:=A (HE.o.trans (ifP rfl))
   clear HE
   go_enter func290,ntmps290
   go_wp2_with (first|(go_at_call 302;refine(Zb0 _ _ hq).mono ?_;rintro e w' ⟨rfl,rfl⟩;rw[HD.o])|fail)
   refine(ZfI pb base f s v bs _ HP.o HO.o HB.o hl).mono ?_
   rintro e w1 ⟨x,v1,bs1,rfl,h1,h2,h3,h5⟩;have H1:=A h1;have H2:=A h2;have H3:=A h3;have H5:=A h5
   have hbl:bs1.length<1099511627776:=by have:=Zco h3;omega
   have hbl2:=Zco h3;have hz:base<=w1.heap.size:=Xe hbw h5.size;clear h1 h2 h3 h5;obtain⟨hc0,hc1,hc2,hf2⟩:=H1.o.facts
   go_wp2_with (at_builtin;go_must (refine Zds w1 (⟨#[]⟩:BA) rfl _ _ rfl base v1 bs1 rfl H2.o rfl hbl hz ?_;intro v' w2 ho2 hb2 hk2;obtain⟨g2,n2,c2,rfl⟩:=ZcW ho2 (by simp);obtain⟨hp4,hps,hos,hbs⟩:=KEY.o w1 w2 v1 _ bs1 H5.o H1.o ho2 hb2 hk2;obtain⟨-,-,hd2,hg2⟩:=hp4.facts;have HPS:=A hps;have HOS:=A hos;have HBS:=A hbs;clear ho2 hb2 hk2 hp4 hps hos hbs))
   exact bodyPost_end (results_none rfl _ _ _) rfl ⟨_,_,_,rfl,HPS.o _,HOS.o _,by rw[HE2.o,Xl,H3.o];rfl,by rw[Xc];simp;omega,HBS.o _⟩
def Zcu(p:UInt8->Bool)(l:List UInt8):List (List UInt8):=
 match l with
 | []=>[[]]
 | c::r=>if p c then []::Zcu p r else
  match Zcu p r with
  | []=>[[c]]
  | x::q=>(c::x)::q
theorem ZgF(p:UInt8->Bool)(l:LB):Zcu p l=if(bcut p l).2.2 then(bcut p l).1::Zcu p (bcut p l).2.1 else [(bcut p l).1]:=by
 induction l with
 | nil=>simp[Zcu,bcut]
 | cons c r ih=>
  cases h:p c
  .have hc:bcut p (c::r)=(c::(bcut p r).1,(bcut p r).2):=by simp[bcut,h]
   rw[Zcu,ifN (by simp[h]),hc,ih]
   cases h2:(bcut p r).2.2<;>simp
  .have hc:bcut p (c::r)=([],r,true):=by simp[bcut,h]
   rw[Zcu,ifP h,hc]
   simp
theorem Zga(p:UInt8->Bool)(l:LB):∃x q,Zcu p l=x::q:=by
 rw[ZgF]
 split
 .exact⟨_,_,rfl⟩
 .exact⟨_,_,rfl⟩
def Zdt(f:Bool):List (List UInt8)->List (List UInt8)->List (List UInt8)
 | ps,[]=>ps
 | ps,[x]=>Zec f ps x true
 | ps,x::y::r=>Zdt f (Zec f ps x false) (y::r)
def Za3(f sp:Bool)(ps:List (List UInt8))(text:List UInt8):List (List UInt8):=Zdt f ps (Zcu (slB sp) text)
theorem Zls(f sp:Bool)(ps:List LB)(text:LB):Za3 f sp ps text=if(bcut (slB sp) text).2.2 then Za3 f sp (Zec f ps (bcut (slB sp) text).1 false) (bcut (slB sp) text).2.1 else Zec f ps (bcut (slB sp) text).1 true:=by
 unfold Za3;rw[ZgF]
 cases h:(bcut (slB sp) text).2.2
 .rfl
 .simp only[if_true]
  obtain⟨x,q,hx⟩:=Zga (slB sp) (bcut (slB sp) text).2.1;rw[hx]
  rfl
theorem ZfK(pb base:Nat)(f s:Bool)(v:Value)(bs:LA)(t:BA)(w:World)(hp:PthAt w pb f s v)(ho:ZbK w base v bs)(hb:base<=pb)(hbw:base<=w.heap.size)(hl:bs.length<=100000)(ht:t.size<=100000):Calls prog 259 #[.pointer (some ⟨pb,0,none⟩),J t] w fun e w'=>∃x v' bs',e=Y x/\PthAt w' pb f s v'/\ZbK w' base v' bs'/\bs'.map tl=Za3 f s (bs.map tl) (tl t)/\bs'.length<=bs.length+t.size+1/\Below base w w':=by
 have HP:=A hp;have HO:=A ho;have HB:=A hb;clear hp ho hb
 go_enter func259,ntmps259
 go_wp2
 go_loopw [4,5] (fun x m wr=>∃(q:BA) (more:Bool) (v1:Value) (cs:LA),x=J q/\m=C more/\PthAt wr pb f s v1/\ZbK wr base v1 cs/\cs.length+q.size<=bs.length+t.size+1/\(more=true->cs.length+q.size<=bs.length+t.size)/\Za3 f s (bs.map tl) (tl t)=(if more then Za3 f s (cs.map tl) (tl q)else cs.map tl)/\Below base w wr)
  (fun x m _=>if ZoQ m then ZoP x+1 else 0)
 case atStart=>exact⟨t,true,v,bs,rfl,rfl,HP.o,HO.o,by omega,fun _=>Xb _,rfl,Below.refl _ _⟩
 case round=>
  obtain⟨q,more,v1,cs,rfl,rfl,hp1,ho1,hl1,hm,hE,hbel⟩:=hrel
  cases more
  .simp only[Bool.false_eq_true,if_false]at hE
   have HE:=A hE;have HP1:=A hp1;have HO1:=A ho1;have HBL:=A hbel;clear hE hp1 ho1 hbel hm;go_wp2
   exact bodyPost_end (results_none rfl _ _ _) rfl ⟨_,_,_,rfl,HP1.o,HO1.o,HE.o.symm,by omega,HBL.o⟩
  .have hl2:=hm rfl
   simp only[if_true]at hE;rw[Zls f s (cs.map tl) (tl q)]at hE;have HE:=A hE;have HP1:=A hp1;have HO1:=A ho1;have HBL:=A hbel;have HL:=A (Z9 (slB s) (tl q));obtain⟨hc0,hc1,hc2,hf2⟩:=hp1.facts;clear hE hp1 ho1 hbel hm HP HO;go_wp2_with fail
   refine(Zdq q s _ (Ze (by omega))).mono ?_
   rintro e w1 ⟨⟨a,b,rfl,ha,hb⟩,hn1⟩
   have hla:a.size=(bcut (slB s) (tl q)).1.length:=by rw[<-ha,Za]
   have hlb:b.size=(bcut (slB s) (tl q)).2.1.length:=by rw[<-hb,Za]
   have HA:=A ha;have HBB:=A hb;have HLA:=A hla;have HLB:=A hlb
   have hqa:a.size<=1000000:=by have h:=HL.o.1;rw[Za]at h;omega
   have hz1:base<=wr.heap.size:=Xe hbw HBL.o.size;have hz:base<=w1.heap.size:=Xe hz1 hn1.size;have HP2:=A (HP1.o.on hn1);have HO2:=A (Zbw HO1.o hn1);have HBL2:=A (show Below base w w1 from HBL.o.trans (hn1.mono hz1));clear ha hb hla hlb hn1 HP1 HO1 HBL;generalize bcut (slB s) (tl q)=c at *;obtain⟨c1,c2,found⟩:=c;simp only at *;go_wp2_with fail
   refine(Zva pb base f s v1 cs a (!found) w1 HP2.o HO2.o HB.o hz (by omega) hqa).mono ?_
   rintro e w2 ⟨x,v2,cs2,rfl,h1,h2,h3,h4,h5⟩;have H1:=A h1;have H2:=A h2;have H3:=A h3;have H4:=A h4;have H5:=A (HBL2.o.trans h5);clear h1 h2 h3 h4 h5;go_wp2
   go_roundw
   case rel=>
    refine⟨b,found,v2,cs2,rfl,rfl,H1.o,H2.o,?_,?_,?_,H5.o⟩
    .have h:=HL.o.1;have h1:=HLA.o;have h2:=HLB.o;have h3:=H4.o;rw[Za]at h;omega
    .intro hf;have h:=HL.o.2 hf;have h2:=HLB.o;have h3:=H4.o;rw[Za]at h;omega
    .rw[HE.o,H3.o,HA.o,HBB.o]
     cases found<;>rfl
   case measure=>
    have h:=HL.o;have h2:=HLB.o;rw[Za]at h;simp only[ZoQ,ZoP]
    cases found
    .simp
    .have:=h.2 rfl
     simp only[if_true];omega
theorem Znj(w:World)(f s:Bool)(v:Value):PthAt (w.alloc (O #[C f,C s,v] 223)) w.heap.size f s v:=heap_alloc_new w _
theorem ZT{w:World}{base:Nat}{v:Value}{bs:LA}(h:ZbK w base v bs):∃ao n cap,v=.slice ao n cap:=by
 obtain⟨h1,⟨h2,h3⟩|⟨g',cap',cur,h2,h4⟩⟩:=h
 .exact⟨_,_,_,h2⟩
 .exact⟨_,_,_,h2⟩
def Zcb(t sch:List UInt8):List (List UInt8):=Za3 (sch==ZE) (Zc sch) [] t
theorem ZbD(t sch:BA)(w:World)(ht:t.size<=100000):Calls prog 227 #[J t,J sch] w fun e w'=>∃v bs,e=Y v/\ZbK w' w.heap.size v bs/\bs.map tl=Zcb (tl t) (tl sch)/\bs.length<=t.size+1/\Nx w w':=by
 go_enter func227,ntmps227
 go_wp2_with fail
 refine(Zia _ [] sch w (SlAt.nil w) (by simp)).mono ?_
 rintro e w1 ⟨v1,rfl,ho,hn⟩;obtain⟨ao,n,cap,rfl⟩:=ZT ho;have hz:=hn.size;have HP:=A (Znj w1 (tl sch==ZE) (Zc (tl sch)) (.slice ao n cap));have HO:=A (show ZbK (w1.alloc (O #[C (tl sch==ZE),C (Zc (tl sch)),.slice ao n cap] 223)) w.heap.size (.slice ao n cap) []from World.ownsRow.alloc ho _);have HN:=A (show Nx w (w1.alloc (O #[C (tl sch==ZE),C (Zc (tl sch)),.slice ao n cap] 223))from hn.alloc _);clear ho hn;go_wp2_with fail
 refine(ZfK w1.heap.size w.heap.size _ _ _ [] t _ HP.o HO.o hz (by simp;omega) (by simp) ht).mono ?_
 rintro e w2 ⟨x,v2,bs,rfl,h1,h2,h3,h4,h5⟩;obtain⟨ao2,n2,cap2,rfl⟩:=ZT h2;obtain⟨-,-,hc2,-⟩:=h1.facts;have H2:=A h2;have H3:=A h3;have H4:=A h4;have H5:=A (show Nx w w2 from HN.o.trans h5);clear h1 h2 h3 h4 h5 HP HO HN;go_wp2;go_ret
 exact⟨_,_,rfl,H2.o,H3.o,by have:=H4.o;simpa using this,H5.o⟩
def Zc8(base:List (List UInt8))(t sch:List UInt8):List (List UInt8):=Za3 (sch==ZE) (Zc sch) (ZaK (sch==ZE) base) t
theorem Znk(v:Value)(cs:LA)(t sch:BA)(w:World)(hv:ZbP w v cs)(hl:cs.length<=100000)(ht:t.size<=100000):Calls prog 263 #[v,J t,J sch] w fun e w'=>∃v bs,e=Y v/\ZbK w' w.heap.size v bs/\bs.map tl=Zc8 (cs.map tl) (tl t) (tl sch)/\bs.length<=cs.length+t.size+1/\Nx w w':=by
 go_enter func263,ntmps263
 go_wp2_with fail
 refine(Zia _ cs sch w hv (by omega)).mono ?_
 rintro e w1 ⟨v1,rfl,ho,hn⟩;obtain⟨ao,n,cap,rfl⟩:=ZT ho;have hz:=hn.size;have HP:=A (Znj w1 (tl sch==ZE) (Zc (tl sch)) (.slice ao n cap));have HO:=A (show ZbK (w1.alloc (O #[C (tl sch==ZE),C (Zc (tl sch)),.slice ao n cap] 223)) w.heap.size (.slice ao n cap) cs from World.ownsRow.alloc ho _);have HN:=A (show Nx w (w1.alloc (O #[C (tl sch==ZE),C (Zc (tl sch)),.slice ao n cap] 223))from hn.alloc _);clear ho hn hv;go_wp2_with fail
 refine(ZfI w1.heap.size w.heap.size _ _ _ cs _ HP.o HO.o hz (by omega)).mono ?_
 rintro e w3 ⟨x,v3,bs3,rfl,h1,h2,h3,h5⟩;have hl3:=Zco h3
 have hz3:w.heap.size<=w3.heap.size:=Xe (by simp;omega) h5.size
 have H1:=A h1;have H2:=A h2;have H3:=A h3;have H5:=A (show Nx w w3 from HN.o.trans h5);clear h1 h2 h3 h5 HP HO HN;go_wp2_with fail
 refine(ZfK w1.heap.size w.heap.size _ _ _ bs3 t _ H1.o H2.o hz hz3 (by omega) ht).mono ?_
 rintro e w2 ⟨x,v2,bs,rfl,h1,h2,h3,h4,h5⟩;obtain⟨ao2,n2,cap2,rfl⟩:=ZT h2;obtain⟨-,-,hc2,-⟩:=h1.facts;have G2:=A h2;have G3:=A h3;have G4:=A h4;have G5:=A (show Nx w w2 from H5.o.trans h5);clear h1 h2 h3 h4 h5;go_wp2;go_ret
 exact⟨_,_,rfl,G2.o,by rw[G3.o,H3.o];rfl,by have:=G4.o;omega,G5.o⟩
def ZaR(base:List (List UInt8))(t:List UInt8):List (List UInt8):=
 if base=[]∨Zad (base.getD 0 [])=false∨Z3 t=true then Zcb t ZE else Za3 true true (base.take 1) t
theorem file_special:Zc ZE=true:=by decide
theorem Zed{base:List LB}{t:LB}(h:base=[]∨Zad (base.getD 0 [])=false∨Z3 t=true):ZaR base t=Zcb t ZE:=ifP h
theorem Znl{base:List LB}{t:LB}(h1:base≠[])(h2:Zad (base.getD 0 [])=true)(h3:Z3 t=false):ZaR base t=Za3 true true (base.take 1) t:=
 ifN (by rintro(h|h|h);exact h1 h;rw[h2]at h;cases h;rw[h3]at h;cases h)
theorem Znm(v:Value)(cs:LA)(t:BA)(w:World)(hv:ZbP w v cs)(ht:t.size<=100000):Calls prog 255 #[v,J t] w fun e w'=>∃v bs,e=Y v/\ZbK w' w.heap.size v bs/\bs.map tl=ZaR (cs.map tl) (tl t)/\bs.length<=t.size+2/\Nx w w':=by
 have HV:=A hv;obtain⟨ao,cap,rfl,hlc,hcap,hnone,hsome⟩:=hv;have HCAP:=A hcap;unfold maxLen at hcap;have HRD:Hid (tl (⟨#[102,105,108,101]⟩:BA)=ZE):=A rfl;rcases Xu cs.length with h0|hpos
 focus
  have e0:cs=[]:=Xy h0;subst e0;have HE:=A (Zed (base:=([]:LA).map tl) (t:=tl t) (XT rfl));clear h0 hnone hsome
  go_enter func255,ntmps255
  go_wp2_with fail
 rotate_left
 focus
  obtain⟨a,ha⟩:=Zv (k:=0) hpos hnone;subst ha;obtain⟨b,off,rfl,hr⟩:=hsome a rfl;have hck:=hr.cell (i:=0) hpos;rw[XY]at hck;have HM:=A (Zkv cs hpos)
  have HNE:=A (show cs.map tl≠[]from fun h=>by have:=congrArg List.length h;rw[Xo]at this;simp at this;subst this;simp at hpos)
  have hn0:((cs.length:Int)==0)=false:=beq_eq_false_iff_ne.2 (by omega)
  have HS1:=A (ZdB hr hlc HCAP.o 1 hpos);clear hnone hsome hr
  cases hw:Zad (tl cs[0])
  focus
   have HW:=A hw
   have HE:=A (Zed (base:=cs.map tl) (t:=tl t) (XI (XT (by rw[HM.o];exact hw))))
   clear hw
   go_enter func255,ntmps255
   go_wp2_with (first|(go_at_call 289;refine(Zct _ _).mono ?_;rintro e w' ⟨rfl,rfl⟩;rw[HW.o])|fail)
  rotate_left
  .have HW:=A hw
   clear hw
   cases hd:Z3 (tl t)
   .have HD:=A hd
    have HE:=A (Znl (base:=cs.map tl) (t:=tl t) HNE.o (by rw[HM.o];exact HW.o) hd)
    clear hd
    go_enter func255,ntmps255
    go_wp2_with (first|(go_at_call 289;refine(Zct _ _).mono ?_;rintro e w' ⟨rfl,rfl⟩;rw[HW.o])|fail)
    refine(ZdI t _ (Ze (by omega))).mono ?_
    rintro e w0 ⟨rfl,hn0⟩;rw[HD.o];have HN0:=A hn0;have HS2:=A (HS1.o.on hn0);clear hn0;go_wp2_with fail
    refine(Zia _ (cs.take 1) _ w0 HS2.o (by rw[Xg];omega)).mono ?_
    rintro e w1 ⟨v1,rfl,ho,hn⟩;rw[HRD.o,file_special,show(ZE==ZE)=true from rfl];obtain⟨ao,n,cap,rfl⟩:=ZT ho;have hz0:=HN0.o.size;have hz:=hn.size;have HP:=A (Znj w1 true true (.slice ao n cap));have HO:=A (show ZbK (w1.alloc (O #[C true,C true,.slice ao n cap] 223)) w.heap.size (.slice ao n cap) (cs.take 1)from World.ownsRow.alloc (Zkx ho hz0) _);have HN:=A (show Nx w (w1.alloc (O #[C true,C true,.slice ao n cap] 223))from(HN0.o.then hn).alloc _);clear ho hn;go_wp2_with fail
    refine(ZfK w1.heap.size w.heap.size _ _ _ (cs.take 1) t _ HP.o HO.o (by omega) (by simp;omega) (by rw[Xg];omega) ht).mono ?_
    rintro e w2 ⟨x,v2,bs,rfl,h1,h2,h3,h4,h5⟩;obtain⟨ao2,n2,cap2,rfl⟩:=ZT h2;obtain⟨-,-,hc2,-⟩:=h1.facts;have G2:=A h2;have G3:=A h3;have G4:=A h4;have G5:=A (show Nx w w2 from HN.o.trans h5);clear h1 h2 h3 h4 h5 HP HO HN;go_wp2;go_ret
    exact⟨_,_,rfl,G2.o,by rw[G3.o,HE.o,List.map_take],by have:=G4.o;rw[Xg]at this;omega,G5.o⟩
   .have HD:=A hd
    have HE:=A (Zed (base:=cs.map tl) (t:=tl t) (XI (XI hd)));clear hd
    go_enter func255,ntmps255
    go_wp2_with (first|(go_at_call 289;refine(Zct _ _).mono ?_;rintro e w' ⟨rfl,rfl⟩;rw[HW.o])|fail)
    refine(ZdI t _ (Ze (by omega))).mono ?_
    rintro e w0 ⟨rfl,hn0⟩;rw[HD.o];have HN0:=A hn0;clear hn0;go_wp2_with fail
    refine(ZbD t _ w0 ht).mono ?_
    rintro e w1 ⟨v1,bs,rfl,h1,h2,h3,h4⟩;have H1:=A (Zkx h1 HN0.o.size);have H2:=A h2;have H3:=A h3;have H4:=A (HN0.o.then h4);clear h1 h2 h3 h4;go_wp2;go_ret
    exact⟨_,_,rfl,H1.o,by rw[HE.o,H2.o];rfl,by have:=H3.o;omega,H4.o⟩
 all_goals
  refine(ZbD t _ w ht).mono ?_
  rintro e w1 ⟨v1,bs,rfl,h1,h2,h3,h4⟩;have H1:=A h1;have H2:=A h2;have H3:=A h3;have H4:=A h4;clear h1 h2 h3 h4;go_wp2;go_ret
  exact⟨_,_,rfl,H1.o,by rw[HE.o,H2.o];rfl,by have:=H3.o;omega,H4.o⟩
structure Rc where
 sch:ByteArray
 nam:ByteArray
 pw:ByteArray
 hh:Bool
 host:ByteArray
 hp:Bool
 port:Nat
 op:Bool
 opath:ByteArray
 so:Option Addr
 sn:Nat
 sc:Nat
 hq:Bool
 q:ByteArray
 hf:Bool
 fr:ByteArray
structure U where
 sch:List UInt8
 nam:List UInt8
 pw:List UInt8
 hh:Bool
 host:List UInt8
 hp:Bool
 port:Nat
 op:Bool
 opath:List UInt8
 segs:List (List UInt8)
 hq:Bool
 q:List UInt8
 hf:Bool
 fr:List UInt8
 deriving DecidableEq
def Rc.u(r:Rc)(bs:List ByteArray):U:=⟨tl r.sch,tl r.nam,tl r.pw,r.hh,tl r.host,r.hp,r.port,r.op,tl r.opath,bs.map tl,r.hq,tl r.q,r.hf,tl r.fr⟩
structure RcIs (w:World) (r:Rc) (u:U) (bs:List ByteArray):Prop where
 eq:r.u bs=u
 seg:Sg w (.slice r.so r.sn r.sc) bs
 lsch:r.sch.size<=300000
 lnam:r.nam.size<=300000
 lpw:r.pw.size<=300000
 lhost:r.host.size<=300000
 lport:r.port<=65535
 lopath:r.opath.size<=300000
 lsegs:bs.length<=300000
 lseg:∀b∈bs,b.size<=300000
 lq:r.q.size<=300000
 lfr:r.fr.size<=300000
theorem RcIs.on{w w':World}{r:Rc}{u:U}{bs:LA}(h:RcIs w r u bs)(hb:Nx w w'):RcIs w' r u bs:={ h with seg:=h.seg.on hb }
theorem RcIs.sn{w:World}{r:Rc}{u:U}{bs:LA}(h:RcIs w r u bs):r.sn=bs.length:=by obtain⟨ao,cap,he,-⟩:=h.seg.1;simp only[Value.slice.injEq]at he;exact he.2.1
def RecB(w:World)(b:Nat)(r:Rc):Prop:=w.heap[b]?=some (O #[J r.sch,J r.nam,J r.pw,C r.hh,J r.host,C r.hp,I X (r.port:Int),C r.op,J r.opath,.slice r.so r.sn r.sc,C r.hq,J r.q,C r.hf,J r.fr] 101 (0,0))
theorem RecB.on{w w':World}{b:Nat}{r:Rc}(h:RecB w b r)(hb:Nx w w'):RecB w' b r:=(hb.block b (Xj.1 h).1).trans h
theorem ZbL(w:World)(r:Rc):RecB (w.alloc (O #[J r.sch,J r.nam,J r.pw,C r.hh,J r.host,C r.hp,I X (r.port:Int),C r.op,J r.opath,.slice r.so r.sn r.sc,C r.hq,J r.q,C r.hf,J r.fr] 101)) w.heap.size r:=heap_alloc_new w _
theorem RecB.cells{w:World}{b:Nat}{r:Rc}(h:RecB w b r):w.cell? ⟨b,0,none⟩=some (J r.sch)/\w.cell? ⟨b,1,none⟩=some (J r.nam)/\w.cell? ⟨b,2,none⟩=some (J r.pw)/\w.cell? ⟨b,3,none⟩=some (C r.hh)/\w.cell? ⟨b,4,none⟩=some (J r.host)/\w.cell? ⟨b,5,none⟩=some (C r.hp)/\w.cell? ⟨b,6,none⟩=some (I X (r.port:Int))/\w.cell? ⟨b,7,none⟩=some (C r.op)/\w.cell? ⟨b,8,none⟩=some (J r.opath)/\w.cell? ⟨b,9,none⟩=some (.slice r.so r.sn r.sc)/\w.cell? ⟨b,10,none⟩=some (C r.hq)/\w.cell? ⟨b,11,none⟩=some (J r.q)/\w.cell? ⟨b,12,none⟩=some (C r.hf)/\w.cell? ⟨b,13,none⟩=some (J r.fr):=by
 unfold RecB at h
 refine⟨?_,?_,?_,?_,?_,?_,?_,?_,?_,?_,?_,?_,?_,?_⟩<;>simp[World.cell?,h]
theorem RecB.free{w:World}{b:Nat}{r:Rc}(h:RecB w b r)(i:Nat):w.frozen? ⟨b,i,none⟩=false:=by
 unfold RecB at h
 simp[World.frozen?,h]
def Zb2(u:U):List UInt8:=u.sch++[58]
theorem Zhg(r:Rc)(u:U)(bs:LA)(w:World)(h:RcIs w r u bs):Calls prog 83 #[.agg #[J r.sch,J r.nam,J r.pw,C r.hh,J r.host,C r.hp,I X (r.port:Int),C r.op,J r.opath,.slice r.so r.sn r.sc,C r.hq,J r.q,C r.hf,J r.fr]] w fun e w'=>∃t:BA,e=Y (J t)/\tl t=Zb2 u/\Nx w w':=by
 have hs:=h.lsch
 have HE:=A (show Zb2 u=tl r.sch++[58]by rw[<-h.eq];rfl)
 clear h
 go_enter func83,ntmps83
 go_wp2;go_ret
 exact⟨r.sch++(⟨#[58]⟩:BA),rfl,by rw[HE.o,Zd];rfl,Nx.rfl.alloc _⟩
def ZfL(m t:List UInt8):List UInt8:=if t=[]then []else m++t
theorem ZjC(m t:BA)(w:World)(hm:m.size<=1000000)(ht:t.size<=1000000):Calls prog 148 #[J m,J t] w fun e w'=>∃x:BA,e=Y (J x)/\tl x=ZfL (tl m) (tl t)/\w=w':=by
 by_cases h0:t.size=0
 .have HE:=A (show ZfL (tl m) (tl t)=[]from ifP (Zz h0))
  have h0':=Zo h0;clear h0
  go_enter func148,ntmps148
  go_wp2;go_ret;exact⟨⟨#[]⟩,rfl,HE.o.symm,rfl⟩
 .have HE:=A (show ZfL (tl m) (tl t)=tl m++tl t from ifN (ZdF h0))
  have h0':=Zj h0;clear h0
  go_enter func148,ntmps148
  go_wp2;go_ret
  exact⟨m++t,rfl,by rw[HE.o,Zd],rfl⟩
def Zky(u:U):List UInt8:=ZfL [63] u.q
def Zvb(u:U):List UInt8:=ZfL [35] u.fr
theorem Zqq(r:Rc)(u:U)(bs:LA)(w:World)(h:RcIs w r u bs):Calls prog 87 #[.agg #[J r.sch,J r.nam,J r.pw,C r.hh,J r.host,C r.hp,I X (r.port:Int),C r.op,J r.opath,.slice r.so r.sn r.sc,C r.hq,J r.q,C r.hf,J r.fr]] w fun e w'=>∃t:BA,e=Y (J t)/\tl t=Zky u/\Nx w w':=by
 have hs:=h.lq
 have HE:=A (show Zky u=ZfL [63] (tl r.q)by rw[<-h.eq];rfl)
 clear h
 go_enter func87,ntmps87
 go_wp2_with (go_at_call 148;refine(ZjC _ _ _ (by decide) (by omega)).mono ?_;rintro e w' ⟨x,rfl,hx,rfl⟩;have HX:=A hx;clear hx)
 go_ret
 exact⟨x,rfl,by rw[HE.o];exact HX.o,Nx.rfl.alloc _⟩
theorem Zvc(r:Rc)(u:U)(bs:LA)(w:World)(h:RcIs w r u bs):Calls prog 88 #[.agg #[J r.sch,J r.nam,J r.pw,C r.hh,J r.host,C r.hp,I X (r.port:Int),C r.op,J r.opath,.slice r.so r.sn r.sc,C r.hq,J r.q,C r.hf,J r.fr]] w fun e w'=>∃t:BA,e=Y (J t)/\tl t=Zvb u/\Nx w w':=by
 have hs:=h.lfr
 have HE:=A (show Zvb u=ZfL [35] (tl r.fr)by rw[<-h.eq];rfl)
 clear h
 go_enter func88,ntmps88
 go_wp2_with (go_at_call 148;refine(ZjC _ _ _ (by decide) (by omega)).mono ?_;rintro e w' ⟨x,rfl,hx,rfl⟩;have HX:=A hx;clear hx)
 go_ret
 exact⟨x,rfl,by rw[HE.o];exact HX.o,Nx.rfl.alloc _⟩
def ZbE(u:U):List UInt8:=if u.hp=true then ZjB u.port else []
theorem Zhh(r:Rc)(u:U)(bs:LA)(w:World)(h:RcIs w r u bs)(ht:Tb w):Calls prog 85 #[.agg #[J r.sch,J r.nam,J r.pw,C r.hh,J r.host,C r.hp,I X (r.port:Int),C r.op,J r.opath,.slice r.so r.sn r.sc,C r.hq,J r.q,C r.hf,J r.fr]] w fun e w'=>∃t:BA,e=Y (J t)/\tl t=ZbE u/\t.size<=5/\Nx w w':=by
 have hs:=h.lport
 have HD:=A (show ZbE u=if r.hp=true then ZjB r.port else []by rw[<-h.eq];rfl)
 have HTB:=A ht;clear h ht
 cases hhp:r.hp
 .have HE:=A (HD.o.trans (ifN (by rw[hhp];decide)))
  clear HD
  go_enter func85,ntmps85
  go_wp2;go_ret
  exact⟨⟨#[]⟩,rfl,HE.o.symm,by decide,Nx.rfl.alloc _⟩
 .have HE:=A (HD.o.trans (ifP hhp))
  clear HD
  go_enter func85,ntmps85
  go_wp2_with (go_at_call 147;refine(Zsw r.port hs _ (HTB.o.on (Nx.rfl.alloc _))).mono ?_;rintro e w1 ⟨x,rfl,hx,hn⟩;have HX:=A hx;have HN:=A (show Nx w w1 from(Nx.rfl.alloc _).then hn);clear hx hn)
  go_ret
  exact⟨x,rfl,by rw[HE.o];exact HX.o,by have:=congrArg List.length HX.o;rw[Za]at this;have:=Zf9 r.port;omega,HN.o⟩
def Zkz(u:U):List UInt8:=if u.nam=[]/\u.pw=[]then []else if u.pw=[]then u.nam++[64]else u.nam++([58]++u.pw)++[64]
theorem Zvd(r:Rc)(u:U)(bs:LA)(w:World)(h:RcIs w r u bs):Calls prog 196 #[.agg #[J r.sch,J r.nam,J r.pw,C r.hh,J r.host,C r.hp,I X (r.port:Int),C r.op,J r.opath,.slice r.so r.sn r.sc,C r.hq,J r.q,C r.hf,J r.fr]] w fun e w'=>∃t:BA,e=Y (J t)/\tl t=Zkz u/\t.size<=900000/\Nx w w':=by
 have hs1:=h.lnam;have hs2:=h.lpw
 have HD:=A (show Zkz u=if tl r.nam=[]/\tl r.pw=[]then []else if tl r.pw=[]then tl r.nam++[64]else tl r.nam++([58]++tl r.pw)++[64]by rw[<-h.eq];rfl)
 clear h
 by_cases hp0:r.pw.size=0
 .by_cases hn0:r.nam.size=0
  .have HE:=A (HD.o.trans (ifP ⟨Zz hn0,Zz hp0⟩))
   have hp0':=Zo hp0;have hn0':=Zo hn0;clear HD hp0 hn0
   go_enter func196,ntmps196
   go_wp2;go_ret
   exact⟨⟨#[]⟩,rfl,HE.o.symm,by decide,Nx.rfl.alloc _⟩
  .have HE:=A ((HD.o.trans (ifN (fun h=>ZdF hn0 h.1))).trans (ifP (Zz hp0)))
   have hp0':=Zo hp0;have hn0':=Zj hn0;clear HD hp0 hn0
   go_enter func196,ntmps196
   go_wp2;go_ret
   exact⟨r.nam++(⟨#[64]⟩:BA),rfl,by rw[HE.o,Zd];rfl,by rw[Zk];show r.nam.size+1<=_;omega,Nx.rfl.alloc _⟩
 .have HE:=A ((HD.o.trans (ifN (fun h=>ZdF hp0 h.2))).trans (ifN (ZdF hp0)))
  have hp0':=Zj hp0;clear HD hp0
  by_cases hn0:r.nam.size=0
  focus
   have hn0':=Zo hn0
   have hz:r.nam.size<=0:=by omega
  rotate_left
  focus
   have hn0':=Zj hn0
  all_goals
   clear hn0
   go_enter func196,ntmps196
   go_wp2;go_ret
   exact⟨r.nam++((⟨#[58]⟩:BA)++r.pw)++(⟨#[64]⟩:BA),rfl,by rw[HE.o,Zd,Zd,Zd];rfl,by rw[Zk,Zk,Zk];show r.nam.size+(1+r.pw.size)+1<=_;omega,Nx.rfl.alloc _⟩
def ZaA(u:U):List UInt8:=if u.hp=true then u.host++[58]++ZbE u else u.host
theorem ZeI(r:Rc)(u:U)(bs:LA)(w:World)(h:RcIs w r u bs)(ht:Tb w):Calls prog 84 #[.agg #[J r.sch,J r.nam,J r.pw,C r.hh,J r.host,C r.hp,I X (r.port:Int),C r.op,J r.opath,.slice r.so r.sn r.sc,C r.hq,J r.q,C r.hf,J r.fr]] w fun e w'=>∃t:BA,e=Y (J t)/\tl t=ZaA u/\t.size<=600000/\Nx w w':=by
 have hs:=h.lhost
 have HD:=A (show ZaA u=if r.hp=true then tl r.host++[58]++ZbE u else tl r.host by rw[<-h.eq];rfl)
 have HTB:=A ht;have HRC:=A h;have HB:=A (ZbL w r);clear h ht
 cases hhp:r.hp
 .have HE:=A (HD.o.trans (ifN (by rw[hhp];decide)))
  clear HD
  go_enter func84,ntmps84
  go_wp2;go_ret
  exact⟨r.host,rfl,HE.o.symm,by omega,Nx.rfl.alloc _⟩
 .have HE:=A (HD.o.trans (ifP hhp))
  have HPT:=A (fun w1 (hn:Nx w w1)=>Zhh r u bs w1 (HRC.o.on hn) (HTB.o.on hn))
  rw[hhp]at HPT HB;clear HD
  go_enter func84,ntmps84
  go_wp2
  go_region_with (go_at_call 85;refine(HPT.o _ ((Nx.rfl.alloc _).drew)).mono ?_;rintro e w1 ⟨x,rfl,hx,hxs,hn⟩;obtain⟨-,-,-,-,hc4,-⟩:=(RecB.on (RecB.on HB.o Nx.rfl.drew) hn).cells;have HX:=A hx;have HN:=A (show Nx w w1 from((Nx.rfl.alloc _).drew).then hn);clear hx hn)
  all_goals go_wp2
  all_goals go_ret
  all_goals exact⟨r.host++(⟨#[58]⟩:BA)++x,rfl,by rw[HE.o,Zd,Zd,HX.o];rfl,by rw[Zk,Zk];show r.host.size+1+x.size<=_;omega,HN.o⟩
def Zc9(ps:List (List UInt8)):List UInt8:=ps.flatMap fun s=>[47]++s
def ZaL(u:U):List UInt8:=if u.op=true then u.opath else Zc9 u.segs
theorem joinSl_snoc(ps:List LB)(s:LB):Zc9 (ps++[s])=Zc9 ps++([47]++s):=by simp[Zc9]
theorem ZeJ(r:Rc)(u:U)(bs:LA)(w:World)(h:RcIs w r u bs):Calls prog 86 #[.agg #[J r.sch,J r.nam,J r.pw,C r.hh,J r.host,C r.hp,I X (r.port:Int),C r.op,J r.opath,.slice r.so r.sn r.sc,C r.hq,J r.q,C r.hf,J r.fr]] w fun e w'=>∃t:BA,e=Y (J t)/\tl t=ZaL u/\t.size<=200000000000/\Nx w w':=by
 have HD:=A (show ZaL u=if r.op=true then tl r.opath else Zc9 (bs.map tl)by rw[<-h.eq];rfl)
 have hlo:=h.lopath;have hls:=h.lsegs;have HLS:=A h.lseg;have hseg:=h.seg.1;clear h;obtain⟨sch,nam,pw,hh,host,hp,port,op,opath,so,sn,sc,hq,q,hf,fr⟩:=r;simp only at *;obtain⟨ao,cap,he,hlc,hcap,hnone,hsome⟩:=hseg;simp only[Value.slice.injEq]at he;obtain⟨rfl,rfl,rfl⟩:=he;unfold maxLen at hcap
 cases op
 .have HE:=A (HD.o.trans (ifN (by decide)))
  clear HD
  go_enter func86,ntmps86
  go_wp2
  go_loop [3,4] (fun t i=>∃(k:Nat) (txt:BA),k<=bs.length/\t=J txt/\i=I X k/\tl txt=Zc9 ((bs.take k).map tl)/\txt.size<=300001*k) (fun _ i=>bs.length-(intOf i).toNat)
  case atStart=>exact⟨0,⟨#[]⟩,Xr _,rfl,rfl,rfl,by decide⟩
  case round=>
   obtain⟨k,txt,hk,rfl,rfl,hE,hsz⟩:=hrel;have HT:=A hE;clear hE
   by_cases hlt:k<bs.length
   .obtain⟨a,ha⟩:=Zv hlt hnone
    subst ha;obtain⟨b,off,rfl,hr⟩:=hsome a rfl;have hck:=(hr.on (Nx.rfl.alloc (O #[J sch,J nam,J pw,C hh,J host,C hp,I X (port:Int),C false,J opath,.slice (some ⟨b,off,none⟩) bs.length sc,C hq,J q,C hf,J fr] 101))).cell hlt;have hbz:=HLS.o _ (Xx hlt)
    have HS:=A (show(bs.take (k+1)).map tl=(bs.take k).map tl++[tl bs[k]]by rw[Xw hlt,Xl];rfl)
    clear hnone hsome hr;generalize bs[k]=p at *;go_wp2
    go_round
    exact⟨k+1,txt++((⟨#[47]⟩:BA)++p),by omega,rfl,by go_num,by rw[HS.o,joinSl_snoc,Zd,Zd,HT.o];rfl,by rw[Zk,Zk];show txt.size+(1+p.size)<=_;omega⟩
    simp[intOf];omega
   .have HF:=A (show tl txt=ZaL u by rw[HT.o,HE.o,List.take_of_length_le (by omega)])
    have hz2:txt.size<=200000000000:=by
     have:300001*k<=300001*300000:=Nat.mul_le_mul_left _ (by omega)
     omega
    clear hnone hsome;go_wp2;go_ret;exact⟨txt,rfl,HF.o,hz2,Nx.rfl.alloc _⟩
 .have HE:=A (HD.o.trans (ifP rfl))
  clear HD hnone hsome
  go_enter func86,ntmps86
  go_wp2;go_ret
  exact⟨opath,rfl,HE.o.symm,by omega,Nx.rfl.alloc _⟩
def Zhi(u:U):List UInt8:=if u.hh=true then [47,47]++Zkz u++ZaA u else if u.op=false/\1<u.segs.length/\u.segs.getD 0 []=[]then [47,46]else []
theorem Zsz(r:Rc)(u:U)(bs:LA)(w:World)(h:RcIs w r u bs)(ht:Tb w):Calls prog 144 #[.agg #[J r.sch,J r.nam,J r.pw,C r.hh,J r.host,C r.hp,I X (r.port:Int),C r.op,J r.opath,.slice r.so r.sn r.sc,C r.hq,J r.q,C r.hf,J r.fr]] w fun e w'=>∃t:BA,e=Y (J t)/\tl t=Zhi u/\t.size<=3000000/\Nx w w':=by
 have HD:=A (show Zhi u=if r.hh=true then [47,47]++Zkz u++ZaA u else if r.op=false/\1<bs.length/\(bs.map tl).getD 0 []=[]then [47,46]else []by rw[<-Xo (f:=tl),<-h.eq];rfl)
 have HTB:=A ht;have HRC:=A h;have HB:=A (ZbL w r);clear h ht
 cases hhh:r.hh
 .have HE:=A (HD.o.trans (ifN (by rw[hhh];decide)))
  have hseg:=HRC.o.seg.1;have hls:=HRC.o.lsegs;clear HD HRC HB;obtain⟨sch,nam,pw,hh,host,hp,port,op,opath,so,sn,sc,hq,q,hf,fr⟩:=r;simp only at *;obtain⟨ao,cap,he,hlc,hcap,hnone,hsome⟩:=hseg;simp only[Value.slice.injEq]at he;obtain⟨rfl,rfl,rfl⟩:=he;unfold maxLen at hcap;subst hhh
  cases op
  focus
   by_cases h1:1<bs.length
   focus
    have hpos:0<bs.length:=by omega
    obtain⟨a,ha⟩:=Zv (k:=0) hpos hnone;subst ha;obtain⟨b,off,rfl,hr⟩:=hsome a rfl;have hck:=(hr.on (Nx.rfl.alloc (O #[J sch,J nam,J pw,C false,J host,C hp,I X (port:Int),C false,J opath,.slice (some ⟨b,off,none⟩) bs.length sc,C hq,J q,C hf,J fr] 101))).cell (i:=0) hpos;rw[XY]at hck;rw[Zkv bs hpos]at HE;clear hnone hsome hr
    by_cases h0:bs[0].size=0
    .have HE2:=A (HE.o.trans (ifP ⟨rfl,h1,Zz h0⟩))
     have h0':=Zo h0;clear HE h0
     go_enter func144,ntmps144
     go_wp2;go_ret
     exact⟨⟨#[47,46]⟩,rfl,HE2.o.symm,by decide,Nx.rfl.alloc _⟩
    focus
     have HE2:=A (HE.o.trans (ifN (fun h=>ZdF h0 h.2.2)))
     have h0':=Zj h0;clear HE h0
   rotate_left
   focus
    have HE2:=A (HE.o.trans (ifN (fun h=>h1 h.2.1)))
    clear HE hnone hsome
  rotate_left 2
  focus
   have HE2:=A (HE.o.trans (ifN (fun h=>by cases h.1)))
   clear HE hnone hsome
  all_goals
   go_enter func144,ntmps144
   go_wp2;go_ret
   exact⟨⟨#[]⟩,rfl,HE2.o.symm,by decide,Nx.rfl.alloc _⟩
 .have HE:=A (HD.o.trans (ifP hhh))
  have HU:=A (fun w1 (hn:Nx w w1)=>Zvd r u bs w1 (HRC.o.on hn))
  have HHP:=A (fun w1 (hn:Nx w w1)=>ZeI r u bs w1 (HRC.o.on hn) (HTB.o.on hn))
  rw[hhh]at HU HHP HB;clear HD
  go_enter func144,ntmps144
  go_wp2_with fail
  refine(HU.o _ (Nx.rfl.alloc _)).mono ?_
  rintro e w1 ⟨x,rfl,hx,hxs,hn⟩;obtain⟨c0,c1,c2,c3,c4,c5,c6,c7,c8,c9,c10,c11,c12,c13⟩:=(RecB.on HB.o hn).cells;rw[hhh]at c3;have HX:=A hx;have HN:=A (show Nx w w1 from(Nx.rfl.alloc _).then hn);clear hx hn;go_wp2_with fail
  refine(HHP.o _ HN.o).mono ?_
  rintro e w2 ⟨y,rfl,hy,hys,hn2⟩;have HY:=A hy;have HN2:=A (HN.o.then hn2);clear hy hn2 c0 c1 c2 c3 c4 c5 c6 c7 c8 c9 c10 c11 c12 c13;go_wp2;go_ret
  exact⟨(⟨#[47,47]⟩:BA)++x++y,rfl,by rw[HE.o,Zd,Zd,HX.o,HY.o];rfl,by rw[Zk,Zk];show 2+x.size+y.size<=_;omega,HN2.o⟩
def Zjc(u:U):List UInt8:=Zb2 u++Zhi u++ZaL u++(if u.hq=true then [63]++u.q else [])++(if u.hf=true then [35]++u.fr else [])
theorem Zo0(r:Rc)(u:U)(bs:LA)(w:World)(h:RcIs w r u bs)(ht:Tb w):Calls prog 81 #[.agg #[J r.sch,J r.nam,J r.pw,C r.hh,J r.host,C r.hp,I X (r.port:Int),C r.op,J r.opath,.slice r.so r.sn r.sc,C r.hq,J r.q,C r.hf,J r.fr]] w fun e w'=>∃t:BA,e=Y (J t)/\tl t=Zjc u/\Nx w w':=by
 have HD:=A (show Zjc u=Zb2 u++Zhi u++ZaL u++(if r.hq=true then [63]++tl r.q else [])++(if r.hf=true then [35]++tl r.fr else [])by rw[<-h.eq];rfl)
 have hlq:=h.lq;have hlf:=h.lfr
 have hlp:Zb2 u=tl r.sch++[58]:=by rw[<-h.eq];rfl
 have hls:=h.lsch;have HTB:=A ht;have HRC:=A h;have HB:=A (ZbL w r);clear h ht
 go_enter func81,ntmps81
 go_wp2_with fail
 refine(Zhg r u bs _ (HRC.o.on (Nx.rfl.alloc _))).mono ?_
 rintro e w1 ⟨x1,rfl,hx1,hn1⟩
 have hz1:x1.size<=600000:=by have:=congrArg List.length (hx1.trans hlp);rw[Za,Xc,Za]at this;simp at this;omega
 have HX1:=A hx1;have HN1:=A (show Nx w w1 from(Nx.rfl.alloc _).then hn1);have HB1:=A (RecB.on HB.o hn1);clear hx1 hn1 hlp HB;obtain⟨c0,c1,c2,c3,c4,c5,c6,c7,c8,c9,c10,c11,c12,c13⟩:=HB1.o.cells;go_wp2_with fail
 refine(Zsz r u bs _ (HRC.o.on HN1.o) (HTB.o.on HN1.o)).mono ?_
 rintro e w2 ⟨x2,rfl,hx2,hz2,hn2⟩;have HX2:=A hx2;have HN2:=A (HN1.o.then hn2);have HB2:=A (RecB.on HB1.o hn2);clear hx2 hn2 HB1 c0 c1 c2 c3 c4 c5 c6 c7 c8 c9 c10 c11 c12 c13;obtain⟨c0,c1,c2,c3,c4,c5,c6,c7,c8,c9,c10,c11,c12,c13⟩:=HB2.o.cells;go_wp2_with fail
 refine(ZeJ r u bs _ (HRC.o.on HN2.o)).mono ?_
 rintro e w3 ⟨x3,rfl,hx3,hz3,hn3⟩;have HX3:=A hx3;have HN3:=A (HN2.o.then hn3);have HB3:=A (RecB.on HB2.o hn3);clear hx3 hn3 HB2 c0 c1 c2 c3 c4 c5 c6 c7 c8 c9 c10 c11 c12 c13;obtain⟨-,-,-,-,-,-,-,-,-,-,c10,c11,c12,c13⟩:=HB3.o.cells
 cases hhq:r.hq
 .rw[hhq]at c10
  rw[hhq]at HD
  cases hhf:r.hf
  .rw[hhf]at c12
   rw[hhf]at HD;go_wp2;go_ret
   exact⟨x1++x2++x3,rfl,by rw[HD.o,ifN (by decide),ifN (by decide),Zd,Zd,HX1.o,HX2.o,HX3.o,Xh,Xh],HN3.o⟩
  .rw[hhf]at c12
   rw[hhf]at HD;go_wp2;go_ret
   exact⟨x1++x2++x3++((⟨#[35]⟩:BA)++r.fr),rfl,by rw[HD.o,ifN (by decide),ifP trivial,Zd,Zd,Zd,Zd,HX1.o,HX2.o,HX3.o,Xh];rfl,HN3.o⟩
 .rw[hhq]at c10
  rw[hhq]at HD
  cases hhf:r.hf
  .rw[hhf]at c12
   rw[hhf]at HD;go_wp2;go_ret
   exact⟨x1++x2++x3++((⟨#[63]⟩:BA)++r.q),rfl,by rw[HD.o,ifP trivial,ifN (by decide),Zd,Zd,Zd,Zd,HX1.o,HX2.o,HX3.o,Xh];rfl,HN3.o⟩
  .rw[hhf]at c12
   rw[hhf]at HD;go_wp2;go_ret
   exact⟨x1++x2++x3++((⟨#[63]⟩:BA)++r.q)++((⟨#[35]⟩:BA)++r.fr),rfl,by rw[HD.o,ifP trivial,ifP trivial,Zd,Zd,Zd,Zd,Zd,Zd,HX1.o,HX2.o,HX3.o];rfl,HN3.o⟩
def Zbb(b:UInt8):Bool:=decide ((b.toNat:Int)<=32)
def Zgb(l:List UInt8):List UInt8:=((l.dropWhile Zbb).reverse.dropWhile Zbb).reverse
theorem Zlt(s:BA)(k:Nat)(h1:((tl s).take k).all Zbb=true)(h2:(h:k<s.size)->Zbb s[k]=false):(tl s).dropWhile Zbb=(tl s).drop k:=by
 have e:=XE k (tl s)
 conv=>lhs;rw[<-e]
 rw[XA (by intro a ha;exact XJ.1 h1 a ha)]
 rcases Nat.lt_or_ge k s.size with h|h
 .rw[ZB s k h,XB (by rw[h2 h];decide)]
 .rw[Zu s k h];rfl
theorem Zgc(l:LB)(m:Nat)(hm:m<=l.length)(h1:(l.drop m).all Zbb=true)(h2:(h:0<m)->Zbb (l[m-1]'(by omega))=false):(l.reverse.dropWhile Zbb).reverse=l.take m:=by
 have e:=XE m l
 conv=>lhs;rw[<-e]
 rw[XF,XA (by intro a ha;exact XJ.1 h1 a (List.mem_reverse.1 ha))]
 rcases Xu m with h|h
 .subst h;simp
 .have hs:l.take m=l.take (m-1)++[l[m-1]'(by omega)]:=by
   rw[<-Xw (by omega)]
   congr 1
   omega
  rw[hs,XF,List.reverse_singleton,List.singleton_append,XB (by rw[h2 h];decide)]
  simp
theorem all_snoc(p:UInt8->Bool)(l:LB)(b:UInt8):(l++[b]).all p=(l.all p&&p b):=by simp
theorem Zve(s:BA)(w:World)(hs:s.size<=1000000):Calls prog 139 #[J s] w fun e w'=>∃r:BA,e=Y (J r)/\tl r=Zgb (tl s)/\r.size<=s.size/\w=w':=by
 go_enter func139,ntmps139
 go_wp2
 go_loop [3] (fun i=>∃k:Nat,k<=s.size/\i=I X k/\((tl s).take k).all Zbb=true) (fun i=>s.size-(intOf i).toNat)
 case atStart=>exact⟨0,Xr _,rfl,rfl⟩
 case round=>
  obtain⟨k,hk,rfl,ha⟩:=hrel;have HA:=A ha;clear ha
  have main:∀(hb:(h:k<s.size)->Zbb s[k]=false),Hid ((tl s).dropWhile Zbb=(tl s).drop k):=fun hb=>A (Zlt s k HA.o hb)
  have second:(hstop:Hid ((tl s).dropWhile Zbb=(tl s).drop k))->True:=fun _=>trivial
  clear second
  by_cases hlt:k<s.size
  .have hb:=bb s[k]
   by_cases hc:(s[k].toNat:Int)<=32
   .have HN:=A (show((tl s).take (k+1)).all Zbb=true by rw[Zt s k hlt,all_snoc,HA.o];simp[Zbb,hc])
    clear main;go_wp2
    go_round
    exact⟨k+1,by omega,by go_num,HN.o⟩
    simp[intOf];omega
   .have HD:=main (fun _=>by simp[Zbb];omega)
    clear main;go_wp2
    go_loop [4] (fun i=>∃m:Nat,k<=m/\m<=s.size/\i=I X m/\((tl s).drop m).all Zbb=true) (fun i=>(intOf i).toNat)
    case atStart=>exact⟨s.size,by omega,Xb _,rfl,by rw[Zu s _ (Xb _)];rfl⟩
    case round=>
     obtain⟨m,hkm,hm,rfl,hal⟩:=hrel;have HAL:=A hal;clear hal
     by_cases hgt:k<m
     focus
      have hm1:m-1<s.size:=by omega
      have hb1:=bb (s[m-1]'hm1)
      by_cases hc1:((s[m-1]'hm1).toNat:Int)<=32
      .have HN:=A (show((tl s).drop (m-1)).all Zbb=true by rw[ZB s (m-1) hm1,List.all_cons,show m-1+1=m by omega,HAL.o];simp[Zbb,hc1])
       go_wp2
       go_round
       exact⟨m-1,by omega,by omega,by rw[show((m-1:Nat):Int)=(m:Int)-1 by omega],HN.o⟩
       simp[intOf];omega
      focus
       have HF:=A (show tl (s.extract k m)=Zgb (tl s)by
        unfold Zgb
        rw[HD.o,tl_extract,Zgc ((tl s).drop k) (m-k) (by rw[Xf,Za];omega) (by rw[XN,show k+(m-k)=m by omega];exact HAL.o) (fun h=>by rw[Xv];show Zbb ((tl s)[k+(m-k-1)]'_)=false;simp only[show k+(m-k-1)=m-1 by omega];rw[Zeu s (m-1) hm1];simp[Zbb];omega),XO])
     rotate_left
     focus
      have HF:=A (show tl (s.extract k m)=Zgb (tl s)by
       unfold Zgb
       rw[HD.o,tl_extract,Zgc ((tl s).drop k) (m-k) (by rw[Xf,Za];omega) (by rw[XN,show k+(m-k)=m by omega];exact HAL.o) (fun h=>by omega),XO])
     all_goals
      have hez:(s.extract k m).size<=s.size:=Zf4 s k m;go_wp2;go_ret;exact⟨s.extract k m,rfl,HF.o,hez,rfl⟩
  .have HD:=main (fun h=>absurd h hlt)
   clear main;go_wp2
   go_loop [4] (fun i=>∃m:Nat,k<=m/\m<=s.size/\i=I X m) (fun i=>(intOf i).toNat)
   case atStart=>exact⟨s.size,by omega,Xb _,rfl⟩
   case round=>
    obtain⟨m,hkm,hm,rfl⟩:=hrel
    have HF:=A (show tl (s.extract k m)=Zgb (tl s)by
     unfold Zgb
     rw[HD.o,tl_extract,Zu s k (by omega),Xk (by rw[Xg,Za];omega)]
     rfl)
    have hez:(s.extract k m).size<=s.size:=Zf4 s k m
    have hgt:¬k<m:=by omega
    go_wp2;go_ret;exact⟨s.extract k m,rfl,HF.o,hez,rfl⟩
def Zfu(b:UInt8):Bool:=(b.toNat:Int)==9||(b.toNat:Int)==10||(b.toNat:Int)==13
def ZbM(l:List UInt8):List UInt8:=l.filter fun b=>!Zfu b
theorem ZkA(l:LB)(b:UInt8):ZbM (l++[b])=ZbM l++(if Zfu b=true then []else [b]):=by
 unfold ZbM;rw[List.filter_append]
 cases h:Zfu b<;>simp[h]
theorem ZeK(l:LB):(ZbM l).length<=l.length:=List.length_filter_le _ _
theorem Zlu(s:BA)(w:World)(hs:s.size<=1000000):Calls prog 140 #[J s] w fun e w'=>∃r:BA,e=Y (J r)/\tl r=ZbM (tl s)/\Nx w w':=by
 go_enter func140,ntmps140
 go_wp2
 go_loopw [3,4] (fun o i wr=>∃k:Nat,k<=s.size/\i=I X k/\Zgy wr w.heap.size o (ZbM ((tl s).take k))/\Nx w wr) (fun _ i _=>s.size-(intOf i).toNat)
 case atStart=>exact⟨0,Xr _,rfl,ZdR w,Nx.rfl.alloc _⟩
 case round=>
  obtain⟨k,hk,rfl,hown,hnx⟩:=hrel
  by_cases hlt:k<s.size
  .have hb:=bb s[k]
   have HTK:=A ((congrArg ZbM (Zt s k hlt)).trans (ZkA _ _));have hz:=hnx.size
   have hsz:(ZbM ((tl s).take k)).length<1099511627776:=by have h:=ZeK ((tl s).take k);have:=List.length_take_le k (tl s);omega
   have HO:=A hown;have HN:=A hnx;have HT2:=A (Ze6 s[k])
   have HBR:=A (show Zfu s[k]=((s[k].toNat:Int)==9||(s[k].toNat:Int)==10||(s[k].toNat:Int)==13)from rfl);clear hown hnx
   cases h9:((s[k].toNat:Int)==9)
   focus
    have n9:=Zjv h9
    cases h10:((s[k].toNat:Int)==10)
    focus
     have n10:=Zjv h10
     cases h13:((s[k].toNat:Int)==13)
     .have n13:=Zjv h13
      have HB:=A (show Zfu s[k]=false by rw[HBR.o,h9,h10,h13];rfl)
      go_wp2_with (at_builtin;go_must (refine ZbA wr (s[k].toNat:Int) rfl _ _ rfl w.heap.size _ _ rfl HO.o rfl (by omega) (by omega) hsz hz ?_;intro v' w2 ho1 hb1 hk1;have HO1:=A ho1;clear ho1))
      go_roundw
      exact⟨k+1,by omega,by go_num,by rw[HTK.o,ifN (by rw[HB.o];decide)];have h:=HO1.o;rw[HT2.o]at h;exact h,HN.o.trans hb1⟩
      simp[intOf];omega
     focus
      have n13:=ZuX h13
      have HB:=A (show Zfu s[k]=true by rw[HBR.o,h13];simp)
    rotate_left
    focus
     have n10:=ZuX h10
     have HB:=A (show Zfu s[k]=true by rw[HBR.o,h10];simp)
   rotate_left 2
   focus
    have n9:=ZuX h9
    have HB:=A (show Zfu s[k]=true by rw[HBR.o,h9];simp)
   all_goals
    go_wp2
    go_roundw
    exact⟨k+1,by omega,by go_num,by rw[HTK.o,ifP HB.o,Xh];exact HO.o,HN.o⟩
    simp[intOf];omega
  .rw[ZQ s k (by omega)]at hown
   have hcv:=Zdp hown;have HN:=A hnx;clear hown hnx;go_wp2;go_ret;exact⟨_,rfl,tl_mk _,HN.o⟩
def ZgG(b:UInt8):Bool:=(b.toNat:Int)==43||(b.toNat:Int)==45||(b.toNat:Int)==46||decide (48<=(b.toNat:Int)/\(b.toNat:Int)<=57)||alpha b.toNat
def Zci(l:List UInt8):Bool:=match l with | []=>false|c::r=>alpha c.toNat&&r.all ZgG
theorem Zjd(p:UInt8->Bool)(s:BA)(k:Nat)(h:k<s.size)(he:p s[k]=false)(h1:1<=k):((tl s).drop 1).all p=false:=by
 rw[List.all_eq_false]
 refine⟨s[k],?_,by rw[he];decide⟩
 rw[<-Zeu s k h]
 rw[show(tl s)[k]'(by rw[Za];exact h)=((tl s).drop 1)[k-1]'(by rw[Xf,Za];omega)by rw[Xv];congr 1;omega]
 exact Xx _
theorem Zib(s:BA)(w:World)(hs:s.size<=1000000):Calls prog 221 #[J s] w fun e w'=>e=Y (C (Zci (tl s)))/\w=w':=by
 by_cases h0:s.size=0
 .have HE:=A (show Zci (tl s)=false by rw[Zz h0];rfl)
  have h0':=Zo h0;clear h0
  go_enter func221,ntmps221
  go_wp2;go_ret;exact⟨Zm HE.o.symm,rfl⟩
 have hpos:0<s.size:=by omega
 have h0':=Zj h0;have hb0:=bb (s[0]'hpos)
 have HD:=A (show Zci (tl s)=(alpha (s[0]'hpos).toNat&&((tl s).drop 1).all ZgG)by have:=ZB s 0 hpos;rw[XP]at this;rw[this];rfl)
 clear h0
 cases hA:alpha ((s[0]'hpos).toNat:Int)
 .have HA:=A hA
  have HE:=A (show Zci (tl s)=false by rw[HD.o,hA];rfl)
  clear hA
  go_enter func221,ntmps221
  go_wp2_with (go_at_call 253;refine(Zbm _ _).mono ?_;rintro e w' ⟨rfl,rfl⟩;rw[HA.o])
  go_ret;exact⟨Zm HE.o.symm,rfl⟩
 .have HA:=A hA
  have HE:=A (show Zci (tl s)=((tl s).drop 1).all ZgG by rw[HD.o,hA];rfl)
  clear hA HD
  go_enter func221,ntmps221
  go_wp2_with (go_at_call 253;refine(Zbm _ _).mono ?_;rintro e w' ⟨rfl,rfl⟩;rw[HA.o])
  go_loop [3] (fun i=>∃k:Nat,1<=k/\k<=s.size/\i=I X k/\(((tl s).take k).drop 1).all ZgG=true) (fun i=>s.size-(intOf i).toNat)
  case atStart=>exact⟨1,by omega,by omega,rfl,by rw[Xk (by rw[Xg];omega)];rfl⟩
  case round=>
   obtain⟨k,hk1,hk,rfl,ha⟩:=hrel;have HAL:=A ha;clear ha
   by_cases hlt:k<s.size
   .have hb:=bb s[k]
    have HY:=A (show ZgG s[k]=true->(((tl s).take (k+1)).drop 1).all ZgG=true from fun h=>by
     rw[Zt s k hlt,List.drop_append_of_le_length (by rw[Xg,Za];omega),all_snoc,HAL.o,h];rfl)
    have HNO:=A (show ZgG s[k]=false->Zci (tl s)=false from fun h=>by rw[HE.o];exact Zjd ZgG s k hlt h hk1)
    have HM:=A (show ZgG s[k]=((s[k].toNat:Int)==43||(s[k].toNat:Int)==45||(s[k].toNat:Int)==46||decide (48<=(s[k].toNat:Int)/\(s[k].toNat:Int)<=57)||alpha s[k].toNat)from rfl)
    cases h43:((s[k].toNat:Int)==43)
    focus
     cases h45:((s[k].toNat:Int)==45)
     focus
      cases h46:((s[k].toNat:Int)==46)
      focus
       by_cases hd:48<=(s[k].toNat:Int)/\(s[k].toNat:Int)<=57
       focus
        have HG:=A (HY.o (by rw[HM.o,decide_eq_true hd];simp))
        obtain⟨hd1,hd2⟩:=hd;clear HY HNO;go_wp2
       rotate_left
       focus
        cases hal:alpha (s[k].toNat:Int)
        .have HG:=A (HNO.o (by rw[HM.o,h43,h45,h46,decide_eq_false hd,hal];rfl))
         have HALP:=A hal;clear HY HNO hal
         by_cases hd1:48<=(s[k].toNat:Int)
         .have hd2:¬(s[k].toNat:Int)<=57:=fun h=>hd ⟨hd1,h⟩
          clear hd
          go_wp2_with (go_at_call 253;refine(Zbm _ _).mono ?_;rintro e w' ⟨rfl,rfl⟩;rw[HALP.o])
          go_ret;exact⟨Zm HG.o.symm,rfl⟩
         .clear hd
          go_wp2_with (go_at_call 253;refine(Zbm _ _).mono ?_;rintro e w' ⟨rfl,rfl⟩;rw[HALP.o])
          go_ret;exact⟨Zm HG.o.symm,rfl⟩
        focus
         have HG:=A (HY.o (by rw[HM.o,hal];simp))
         have HALP:=A hal;clear HY HNO hal
         by_cases hd1:48<=(s[k].toNat:Int)
         focus
          have hd2:¬(s[k].toNat:Int)<=57:=fun h=>hd ⟨hd1,h⟩
          clear hd
          go_wp2_with (go_at_call 253;refine(Zbm _ _).mono ?_;rintro e w' ⟨rfl,rfl⟩;rw[HALP.o])
         rotate_left
         focus
          clear hd
          go_wp2_with (go_at_call 253;refine(Zbm _ _).mono ?_;rintro e w' ⟨rfl,rfl⟩;rw[HALP.o])
      rotate_left 3
      focus
       have HG:=A (HY.o (by rw[HM.o,h46];simp))
       clear HY HNO;go_wp2
     rotate_left 4
     focus
      have HG:=A (HY.o (by rw[HM.o,h45];simp))
      clear HY HNO;go_wp2
    rotate_left 5
    focus
     have HG:=A (HY.o (by rw[HM.o,h43];simp))
     clear HY HNO;go_wp2
    all_goals
     go_round
     exact⟨k+1,by omega,by omega,by go_num,HG.o⟩
     simp[intOf];omega
   .have HF:=A (show Zci (tl s)=true by rw[HE.o];have h:=HAL.o;rw[ZQ s k (by omega)]at h;exact h)
    go_wp2;go_ret;exact⟨Zm HF.o.symm,rfl⟩
def ZbF(l:List UInt8):List UInt8×List UInt8×Bool:=
 if(bcut (isB 58) l).2.2=true/\Zci (bcut (isB 58) l).1=true then(lower (bcut (isB 58) l).1,(bcut (isB 58) l).2.1,true)else([],l,false)
theorem Zqr(s:BA)(w:World)(hs:s.size<=1000000):Calls prog 187 #[J s] w fun e w'=>Zp6 (ZbF (tl s)) e/\Nx w w':=by
 have HD:=A (show ZbF (tl s)=if(bcut (isB 58) (tl s)).2.2=true/\Zci (bcut (isB 58) (tl s)).1=true then(lower (bcut (isB 58) (tl s)).1,(bcut (isB 58) (tl s)).2.1,true)else([],tl s,false)from rfl)
 have hcl:=Z9 (isB 58) (tl s)
 go_enter func187,ntmps187
 go_wp2_with fail
 refine(Zd9 s 58 _ (Ze hs)).mono ?_
 rintro e w1 ⟨⟨a,b,rfl,ha,hb⟩,hn1⟩
 have has:a.size<=1000000:=by have h:=hcl.1;rw[<-ha,Za,Za]at h;omega
 rw[<-ha,<-hb]at HD;have HN1:=A hn1;clear ha hb hn1 hcl;generalize (bcut (isB 58) (tl s)).2.2=found at *
 cases found
 focus
  have HE:=A (HD.o.trans (ifN (by rintro⟨h,-⟩;cases h)))
  clear HD;go_wp2
 rotate_left
 focus
  cases hsc:Zci (tl a)
  focus
   have HE:=A (HD.o.trans (ifN (by rintro⟨-,h⟩;rw[hsc]at h;cases h)))
   have HSC:=A hsc;clear HD hsc
   go_wp2_with (go_at_call 221;refine(Zib _ _ has).mono ?_;rintro e w' ⟨rfl,rfl⟩;rw[HSC.o])
  rotate_left
  .have HE:=A (HD.o.trans (ifP ⟨rfl,hsc⟩))
   have HSC:=A hsc;clear HD hsc
   go_wp2_with (first|(go_at_call 221;refine(Zib _ _ has).mono ?_;rintro e w' ⟨rfl,rfl⟩;rw[HSC.o])|(go_at_call 222;refine(Zjr _ _ has).mono ?_;rintro e w2 ⟨r,rfl,hr,hn2⟩;have HR:=A hr;have HN2:=A (HN1.o.then hn2);clear hr hn2))
   go_ret3
   exact⟨⟨r,b,by rw[HE.o];rfl,by rw[HE.o];exact HR.o,by rw[HE.o]⟩,HN2.o⟩
 all_goals
  go_ret3
  exact⟨⟨⟨#[]⟩,s,by rw[HE.o];rfl,by rw[HE.o];rfl,by rw[HE.o]⟩,HN1.o⟩
def Zbp(sch:List UInt8):Int:=if Zc sch=true then 3 else 2
theorem Zhj(s:BA)(w:World):Calls prog 190 #[C (Zc (tl s))] w fun e w'=>e=Y (I X (Zbp (tl s)))/\w=w':=by
 cases h:Zc (tl s)
 focus
  have HE:=A (show Zbp (tl s)=2 from ifN (by rw[h];decide))
 rotate_left
 focus
  have HE:=A (show Zbp (tl s)=3 from ifP h)
 all_goals
  clear h
  go_enter func190,ntmps190
  go_wp2;go_ret;exact⟨Zaw HE.o.symm,rfl⟩
def cutPortGo(inb:Bool):List UInt8->Option (List UInt8×List UInt8)
 | []=>none
 | c::r=>if(c.toNat:Int)=91 then(cutPortGo true r).map (fun q=>(c::q.1,q.2))else if(c.toNat:Int)=93 then(cutPortGo false r).map (fun q=>(c::q.1,q.2))
  else if(c.toNat:Int)=58/\inb=false then some ([],r)else(cutPortGo inb r).map (fun q=>(c::q.1,q.2))
def Zw(l:List UInt8):List UInt8×List UInt8×Bool:=match cutPortGo false l with|none=>(l,[],false)|some q=>(q.1,q.2,true)
def ZuO(l:List UInt8)(k:Nat)(inb:Bool):Prop:=cutPortGo false l=(cutPortGo inb (l.drop k)).map (fun q=>(l.take k++q.1,q.2))
theorem ZsA(l:LB):ZuO l 0 false:=by
 unfold ZuO;rw[XP,List.take_zero]
 cases cutPortGo false l<;>rfl
theorem ZkB{s:BA}{k:Nat}{inb inb':Bool}(hk:k<s.size)(h:ZuO (tl s) k inb)(hs:cutPortGo inb (s[k]::(tl s).drop (k+1))=(cutPortGo inb' ((tl s).drop (k+1))).map (fun q=>(s[k]::q.1,q.2))):ZuO (tl s) (k+1) inb':=by
 unfold ZuO at *;rw[h,ZB s k hk,hs,Zt s k hk]
 cases cutPortGo inb' ((tl s).drop (k+1))with
 | none=>rfl
 | some q=>simp
theorem Zvf{s:BA}{k:Nat}(hk:k<s.size)(h:ZuO (tl s) k false)(h91:¬(s[k].toNat:Int)=91)(h93:¬(s[k].toNat:Int)=93)(h58:(s[k].toNat:Int)=58):Zw (tl s)=((tl s).take k,(tl s).drop (k+1),true):=by
 unfold ZuO at h;rw[ZB s k hk,cutPortGo,ifN h91,ifN h93,ifP ⟨h58,rfl⟩]at h;unfold Zw;rw[h]
 simp
theorem Zvg{s:BA}{k:Nat}{inb:Bool}(hk:s.size<=k)(h:ZuO (tl s) k inb):Zw (tl s)=(tl s,[],false):=by
 unfold ZuO at h;rw[Zu s k hk]at h;unfold Zw;rw[h]
 rfl
theorem Znn(s:BA)(w:World)(hs:s.size<=1000000):Calls prog 275 #[J s] w fun e w'=>Zp6 (Zw (tl s)) e/\Nx w w':=by
 go_enter func275,ntmps275
 go_wp2
 go_loop [5,6] (fun b i=>∃(k:Nat) (inb:Bool),k<=s.size/\b=C inb/\i=I X k/\ZuO (tl s) k inb) (fun _ i=>s.size-(intOf i).toNat)
 case atStart=>exact⟨0,false,Xr _,rfl,rfl,ZsA _⟩
 case round=>
  obtain⟨k,inb,hk,rfl,rfl,ha⟩:=hrel;have HA:=A ha;clear ha
  by_cases hlt:k<s.size
  .have hb:=bb s[k]
   cases h91:((s[k].toNat:Int)==91)
   focus
    have e91:¬(s[k].toNat:Int)=91:=by simpa using h91
    cases h93:((s[k].toNat:Int)==93)
    focus
     have e93:¬(s[k].toNat:Int)=93:=by simpa using h93
     cases h58:((s[k].toNat:Int)==58)
     .have e58:¬(s[k].toNat:Int)=58:=by simpa using h58
      have HG:=A (ZkB (inb':=inb) hlt HA.o (by rw[cutPortGo,ifN e91,ifN e93,ifN (fun h=>e58 h.1)]))
      clear e91 e93 e58;go_wp2
      go_round
      exact⟨k+1,inb,by omega,rfl,by go_num,HG.o⟩
      simp[intOf];omega
     focus
      cases inb
      .have HR:=A (Zvf hlt HA.o e91 e93 (by simpa using h58))
       clear e91 e93;go_wp2
       go_region
       all_goals go_wp2
       all_goals go_ret3
       all_goals exact⟨⟨_,_,by rw[HR.o];rfl,by rw[HR.o,tl_to],by rw[HR.o,tl_from]⟩,Nx.rfl.drew⟩
      focus
       have HG:=A (ZkB (inb':=true) hlt HA.o (by rw[cutPortGo,ifN e91,ifN e93,ifN (fun h=>by cases h.2)]))
       clear e91 e93
    rotate_left
    .have HG:=A (ZkB (inb':=false) hlt HA.o (by rw[cutPortGo,ifN e91,ifP (by simpa using h93)]))
     clear e91;go_wp2
     go_round
     exact⟨k+1,false,by omega,rfl,by go_num,HG.o⟩
     simp[intOf];omega
   rotate_left
   focus
    have HG:=A (ZkB (inb':=true) hlt HA.o (by rw[cutPortGo,ifP (by simpa using h91)]))
   all_goals
    go_wp2
    go_round
    exact⟨k+1,true,by omega,rfl,by go_num,HG.o⟩
    simp[intOf];omega
  .have HR:=A (Zvg (Nat.le_of_not_lt hlt) HA.o)
   go_wp2
   go_ret3
   exact⟨⟨_,_,by rw[HR.o];rfl,by rw[HR.o],by rw[HR.o];rfl⟩,Nx.rfl⟩
def Zhk:List UInt8:=[108,111,99,97,108,104,111,115,116]
def Z2(l:List UInt8):List UInt8×Int:=if l=[]then([],0)else if(ZaP l true).2≠0 then([],(ZaP l true).2)else if(ZaP l true).1=Zhk then([],0)else((ZaP l true).1,0)
theorem Zlv(s:BA)(w:World)(hs:s.size<=1000000)(ht:Tb w):Calls prog 274 #[J s] w fun e w'=>∃r:BA,e=Y (.tuple #[J r,I X (Z2 (tl s)).2])/\tl r=(Z2 (tl s)).1/\Nx w w':=by
 by_cases h0:s.size=0
 .have HE:=A (show Z2 (tl s)=([],0)from ifP (Zz h0))
  have h0':=Zo h0;clear h0
  go_enter func274,ntmps274
  go_wp2;go_ret2
  exact⟨⟨#[]⟩,by rw[HE.o];rfl,by rw[HE.o];rfl,Nx.rfl⟩
 .have HE:=A (show Z2 (tl s)=if(ZaP (tl s) true).2≠0 then([],(ZaP (tl s) true).2)else if(ZaP (tl s) true).1=Zhk then([],0)else((ZaP (tl s) true).1,0)from ifN (ZdF h0))
  have h0':=Zj h0;clear h0
  go_enter func274,ntmps274
  go_wp2_with fail
  refine(Zlr s true _ hs ht).mono ?_
  rintro e w1 ⟨r,rfl,hr,hn⟩;have HN:=A hn;rw[<-hr]at HE;have HR:=A hr;clear hn hr;generalize (ZaP (tl s) true).2=err at *
  by_cases he:err=0
  .subst he
   have HE2:=A (HE.o.trans (ifN (by decide)))
   clear HE
   by_cases hl:tl r=Zhk
   .have HE3:=A (HE2.o.trans (ifP hl))
    have hl':=eqB hl;unfold Zhk at hl';clear HE2 hl;go_wp2;go_ret2
    exact⟨⟨#[]⟩,by rw[HE3.o];rfl,by rw[HE3.o];rfl,HN.o⟩
   .have HE3:=A (HE2.o.trans (ifN hl))
    have hl':=neB hl;unfold Zhk at hl';clear HE2 hl;go_wp2;go_ret2
    exact⟨r,by rw[HE3.o];rfl,by rw[HE3.o],HN.o⟩
  .have HE2:=A (HE.o.trans (ifP he))
   have he':(err != 0)=true:=Zjv (beq_eq_false_iff_ne.2 he);clear HE he;go_wp2;go_ret2
   exact⟨⟨#[]⟩,by rw[HE2.o];rfl,by rw[HE2.o];rfl,HN.o⟩
def rz:Rc:=⟨⟨#[]⟩,⟨#[]⟩,⟨#[]⟩,false,⟨#[]⟩,false,0,false,⟨#[]⟩,none,0,0,false,⟨#[]⟩,false,⟨#[]⟩⟩
def zeroU:U:=⟨[],[],[],false,[],false,0,false,[],[],false,[],false,[]⟩
theorem ZgH(w:World):RcIs w rz zeroU []:=⟨rfl,Sg.nil w,by decide,by decide,by decide,by decide,by decide,by decide,by decide,(fun b hb=>by cases hb),by decide,by decide⟩
theorem ZgI(w:World):RecB (w.alloc (O #[J ⟨#[]⟩,J ⟨#[]⟩,J ⟨#[]⟩,C false,J ⟨#[]⟩,C false,I X 0,C false,J ⟨#[]⟩,.slice none 0 0,C false,J ⟨#[]⟩,C false,J ⟨#[]⟩] 101)) w.heap.size rz:=heap_alloc_new w _
def C14(w:World)(b:Nat)(v0 v1 v2 v3 v4 v5 v6 v7 v8 v9 v10 v11 v12 v13:Value):Prop:=w.heap[b]?=some (O #[v0,v1,v2,v3,v4,v5,v6,v7,v8,v9,v10,v11,v12,v13] 101 (0,0))
theorem C14.on{w w':World}{b:Nat}{v0 v1 v2 v3 v4 v5 v6 v7 v8 v9 v10 v11 v12 v13:Value}(h:C14 w b v0 v1 v2 v3 v4 v5 v6 v7 v8 v9 v10 v11 v12 v13)(hb:Nx w w'):C14 w' b v0 v1 v2 v3 v4 v5 v6 v7 v8 v9 v10 v11 v12 v13:=(hb.block b (Xj.1 h).1).trans h
theorem RecB.put{w:World}{b:Nat}{r:Rc}(h:RecB w b r)(v0 v1 v2 v3 v4 v5 v6 v7 v8 v9 v10 v11 v12 v13:Value):C14 ((((((((((((((w.setCell ⟨b,0,none⟩ v0).setCell ⟨b,1,none⟩ v1).setCell ⟨b,2,none⟩ v2).setCell ⟨b,3,none⟩ v3).setCell ⟨b,4,none⟩ v4).setCell ⟨b,5,none⟩ v5).setCell ⟨b,6,none⟩ v6).setCell ⟨b,7,none⟩ v7).setCell ⟨b,8,none⟩ v8).setCell ⟨b,9,none⟩ v9).setCell ⟨b,10,none⟩ v10).setCell ⟨b,11,none⟩ v11).setCell ⟨b,12,none⟩ v12).setCell ⟨b,13,none⟩ v13) b v0 v1 v2 v3 v4 v5 v6 v7 v8 v9 v10 v11 v12 v13:=by
 unfold RecB at h;unfold C14
 simp[World.setCell,Xa,h]
theorem C14.cells{w:World}{b:Nat}{v0 v1 v2 v3 v4 v5 v6 v7 v8 v9 v10 v11 v12 v13:Value}(h:C14 w b v0 v1 v2 v3 v4 v5 v6 v7 v8 v9 v10 v11 v12 v13):w.cell? ⟨b,0,none⟩=some v0/\w.cell? ⟨b,1,none⟩=some v1/\w.cell? ⟨b,2,none⟩=some v2/\w.cell? ⟨b,3,none⟩=some v3/\w.cell? ⟨b,4,none⟩=some v4/\w.cell? ⟨b,5,none⟩=some v5/\w.cell? ⟨b,6,none⟩=some v6/\w.cell? ⟨b,7,none⟩=some v7/\w.cell? ⟨b,8,none⟩=some v8/\w.cell? ⟨b,9,none⟩=some v9/\w.cell? ⟨b,10,none⟩=some v10/\w.cell? ⟨b,11,none⟩=some v11/\w.cell? ⟨b,12,none⟩=some v12/\w.cell? ⟨b,13,none⟩=some v13:=by
 unfold C14 at h
 refine⟨?_,?_,?_,?_,?_,?_,?_,?_,?_,?_,?_,?_,?_,?_⟩<;>simp[World.cell?,h]
theorem RecB.far{w:World}{b q:Nat}{r:Rc}(h:RecB w b r)(hq:q≠b)(i:Nat)(u:Value):RecB (w.setCell ⟨q,i,none⟩ u) b r:=by unfold RecB at *;simp only[World.setCell,Xa,ifN hq];exact h
theorem Zi{B:Nat}{a w:World}{b:Nat}(h:Below B a w)(hb:B<=b)(v0 v1 v2 v3 v4 v5 v6 v7 v8 v9 v10 v11 v12 v13:Value):Below B a ((((((((((((((w.setCell ⟨b,0,none⟩ v0).setCell ⟨b,1,none⟩ v1).setCell ⟨b,2,none⟩ v2).setCell ⟨b,3,none⟩ v3).setCell ⟨b,4,none⟩ v4).setCell ⟨b,5,none⟩ v5).setCell ⟨b,6,none⟩ v6).setCell ⟨b,7,none⟩ v7).setCell ⟨b,8,none⟩ v8).setCell ⟨b,9,none⟩ v9).setCell ⟨b,10,none⟩ v10).setCell ⟨b,11,none⟩ v11).setCell ⟨b,12,none⟩ v12).setCell ⟨b,13,none⟩ v13):=
 ((((((((((((((h.setCell hb _).setCell hb _).setCell hb _).setCell hb _).setCell hb _).setCell hb _).setCell hb _).setCell hb _).setCell hb _).setCell hb _).setCell hb _).setCell hb _).setCell hb _).setCell hb _)
def Ks(w w':World):Prop:=∀(k:Nat) (cs:Array Value) (fz:Nat×Nat),w.heap[k]?=some (O cs 9 fz)->w'.heap[k]?=some (O cs 9 fz)
theorem Ks.rfl{w:World}:Ks w w:=fun _ _ _ h=>h
theorem Ks.then{a b c:World}(h:Ks a b)(k:Ks b c):Ks a c:=fun i cs fz hi=>k i cs fz (h i cs fz hi)
theorem Nx.ks{w w':World}(h:Nx w w'):Ks w w':=fun k _ _ hk=>(h.block k (Xj.1 hk).1).trans hk
theorem Zae{w:World}{pb:Nat}{t:TypeId}(h:TyB w pb t)(ht:t≠9)(i:Nat)(u:Value):Ks w (w.setCell ⟨pb,i,none⟩ u):=by
 intro k cs fz hk;obtain⟨cs',fz',h⟩:=h
 have hne:pb≠k:=by intro e;subst e;rw[h]at hk;simp only[Option.some.injEq,Obj.cells.injEq]at hk;exact ht hk.2.1
 simp only[World.setCell,Xa,ifN hne];exact hk
theorem RecB.ty{w:World}{b:Nat}{r:Rc}(h:RecB w b r):TyB w b 101:=⟨_,_,h⟩
theorem ZH{w:World}{b:Nat}{t:TypeId}(h:TyB w b t)(ht:t≠9)(v0 v1 v2 v3 v4 v5 v6 v7 v8 v9 v10 v11 v12 v13:Value):Ks w ((((((((((((((w.setCell ⟨b,0,none⟩ v0).setCell ⟨b,1,none⟩ v1).setCell ⟨b,2,none⟩ v2).setCell ⟨b,3,none⟩ v3).setCell ⟨b,4,none⟩ v4).setCell ⟨b,5,none⟩ v5).setCell ⟨b,6,none⟩ v6).setCell ⟨b,7,none⟩ v7).setCell ⟨b,8,none⟩ v8).setCell ⟨b,9,none⟩ v9).setCell ⟨b,10,none⟩ v10).setCell ⟨b,11,none⟩ v11).setCell ⟨b,12,none⟩ v12).setCell ⟨b,13,none⟩ v13):=by have h1:=h.set b 0 v0;have h2:=h1.set b 1 v1;have h3:=h2.set b 2 v2;have h4:=h3.set b 3 v3;have h5:=h4.set b 4 v4;have h6:=h5.set b 5 v5;have h7:=h6.set b 6 v6;have h8:=h7.set b 7 v7;have h9:=h8.set b 8 v8;have h10:=h9.set b 9 v9;have h11:=h10.set b 10 v10;have h12:=h11.set b 11 v11;have h13:=h12.set b 12 v12;exact((((((((((((((Zae h ht 0 v0).then (Zae h1 ht 1 v1)).then (Zae h2 ht 2 v2)).then (Zae h3 ht 3 v3)).then (Zae h4 ht 4 v4)).then (Zae h5 ht 5 v5)).then (Zae h6 ht 6 v6)).then (Zae h7 ht 7 v7)).then (Zae h8 ht 8 v8)).then (Zae h9 ht 9 v9)).then (Zae h10 ht 10 v10)).then (Zae h11 ht 11 v11)).then (Zae h12 ht 12 v12)).then (Zae h13 ht 13 v13))
theorem SlAt.ks{w w':World}{v:Value}{l:LA}(h:ZbP w v l)(hk:Ks w w'):ZbP w' v l:=by
 obtain⟨ao,cap,rfl,hlc,hcap,hnone,hsome⟩:=h
 refine⟨ao,cap,rfl,hlc,hcap,hnone,fun a ha=>?_⟩
 obtain⟨b,off,rfl,cs,fz,hh,hc⟩:=hsome a ha;exact⟨b,off,rfl,cs,fz,hk b cs fz hh,hc⟩
theorem Sg.ks{w w':World}{v:Value}{l:LA}(h:Sg w v l)(hk:Ks w w'):Sg w' v l:=⟨h.1.ks hk,h.2⟩
theorem RcIs.ks{w w':World}{r:Rc}{u:U}{bs:LA}(h:RcIs w r u bs)(hk:Ks w w'):RcIs w' r u bs:={ h with seg:=h.seg.ks hk }
theorem ZaZ{fn:Func}{R:Ending->World->Prop}{a:Act}{W:World}{c t:Tmp}{rb:Nat}{v0 v1 v2 v3 v4 v5 v6 v7 v8 v9 v10 v11 v12 v13:Value}{err:Int}(hres:fn.results=#[.cell c 101,.tmp t])(hc:a.tmps[c]?.getD undef=.pointer (some ⟨rb,0,none⟩))(ht:a.tmps[t]?.getD undef=I X err)
  (hC:C14 W rb v0 v1 v2 v3 v4 v5 v6 v7 v8 v9 v10 v11 v12 v13) (hd:a.defers=[]) (hR:R (Y (.tuple #[.agg #[v0,v1,v2,v3,v4,v5,v6,v7,v8,v9,v10,v11,v12,v13],I X err])) W):bodyPost prog fn R .ret a W:=by
 obtain⟨y0,y1,y2,y3,y4,y5,y6,y7,y8,y9,y10,y11,y12,y13⟩:=hC.cells
 exact bodyPost_ret (v:=.tuple #[.agg #[v0,v1,v2,v3,v4,v5,v6,v7,v8,v9,v10,v11,v12,v13],I X err]) (by simp[results,hres,hc,ht,go_sem,y0,y1,y2,y3,y4,y5,y6,y7,y8,y9,y10,y11,y12,y13]) hd hR
theorem Zfv{fn:Func}{R:Ending->World->Prop}{a:Act}{W:World}{c:Tmp}{rb:Nat}{v0 v1 v2 v3 v4 v5 v6 v7 v8 v9 v10 v11 v12 v13:Value}(hres:fn.results=#[.cell c 101])(hc:a.tmps[c]?.getD undef=.pointer (some ⟨rb,0,none⟩))
  (hC:C14 W rb v0 v1 v2 v3 v4 v5 v6 v7 v8 v9 v10 v11 v12 v13) (hd:a.defers=[]) (hR:R (Y (.agg #[v0,v1,v2,v3,v4,v5,v6,v7,v8,v9,v10,v11,v12,v13])) W):bodyPost prog fn R .ret a W:=by
 obtain⟨y0,y1,y2,y3,y4,y5,y6,y7,y8,y9,y10,y11,y12,y13⟩:=hC.cells
 exact bodyPost_ret (v:=.agg #[v0,v1,v2,v3,v4,v5,v6,v7,v8,v9,v10,v11,v12,v13]) (by simp[results,hres,hc,go_sem,y0,y1,y2,y3,y4,y5,y6,y7,y8,y9,y10,y11,y12,y13]) hd hR
def ZhK(e:Ending)(w':World)(x:U×Int)(n:Nat):Prop:=∃(r:Rc) (bs:List ByteArray),e=Y (.tuple #[.agg #[J r.sch,J r.nam,J r.pw,C r.hh,J r.host,C r.hp,I X (r.port:Int),C r.op,J r.opath,.slice r.so r.sn r.sc,C r.hq,J r.q,C r.hf,J r.fr],I X x.2])/\RcIs w' r x.1 bs/\bs.length<=n
def Zez(ps:List (List UInt8)):Prop:=∀p∈ps,p.length<=300000
theorem Zcv(set l:LB)(h:l.length<=30000):(encB set (clean l)).length<=300000:=by
 have h1:=Zkp set (clean l);have h2:=ZaJ l
 omega
theorem Zhl{f:Bool}{ps:List LB}(h:Zez ps):Zez (ZaK f ps):=by
 unfold ZaK
 split
 .exact h
 .exact fun p hp=>h p (Xq hp)
theorem Zno{f:Bool}{ps:List LB}{seg:LB}(h:Zez ps)(hs:seg.length<=30000):Zez (joinL f ps seg):=by
 intro p hp;unfold joinL at hp;rcases XM.1 hp with hp|hp
 .exact h p hp
 .rw[XG]at hp
  subst hp
  split
  .rw[Xc,Xg];simp;omega
  .exact Zcv _ _ hs
theorem Zic{f:Bool}{ps:List LB}{seg:LB}{last:Bool}(h:Zez ps)(hs:seg.length<=30000):Zez (Zec f ps seg last):=by
 have h2:Zez (if countDots seg=2 then ZaK f ps else ps):=by split;exact Zhl h;exact h
 unfold Zec
 split
 .exact Zno h hs
 .split
  .intro p hp
   rcases XM.1 hp with hp|hp
   .exact h2 p hp
   .rw[XG]at hp;subst hp;simp
  .exact h2
theorem Zlw(f:Bool)(ss:List LB):∀ps,Zez ps->(∀s∈ss,s.length<=30000)->Zez (Zdt f ps ss):=by
 induction ss with
 | nil=>intro ps h _;exact h
 | cons x r ih=>
  intro ps h hs;have hx:=hs x (Xt ..)
  cases r with
  | nil=>exact Zic h hx
  | cons y q=>exact ih _ (Zic h hx) (fun s hh=>hs s (Xp _ hh))
theorem Zlx(p:UInt8->Bool)(l:LB):∀s∈Zcu p l,s.length<=l.length:=by
 induction l with
 | nil=>intro s hs;rw[Zcu]at hs;simp at hs;subst hs;simp
 | cons c r ih=>
  intro s hs;rw[Zcu]at hs
  split at hs
  .rcases XR.1 hs with rfl|hs
   .simp
   .have:=ih s hs;simp;omega
  .obtain⟨x,q,hx⟩:=Zga p r
   rw[hx]at hs ih;simp only at hs;rcases XR.1 hs with rfl|hs
   .have:=ih x (Xt ..);simp;omega
   .have:=ih s (Xp _ hs);simp;omega
theorem Zee{f sp:Bool}{ps:List LB}{t:LB}(h:Zez ps)(ht:t.length<=30000):Zez (Za3 f sp ps t):=
 Zlw f _ ps h (fun s hs=>Xe (Zlx _ _ s hs) ht)
theorem ZaS{t sch:LB}(ht:t.length<=30000):Zez (Zcb t sch):=Zee (fun p hp=>by cases hp) ht
theorem ZkC{base:List LB}{t sch:LB}(h:Zez base)(ht:t.length<=30000):Zez (Zc8 base t sch):=Zee (Zhl h) ht
theorem Zje{base:List LB}{t:LB}(h:Zez base)(ht:t.length<=30000):Zez (ZaR base t):=by
 unfold ZaR
 split
 .exact ZaS ht
 .exact Zee (fun p hp=>h p (Xq hp)) ht
theorem ZbG{bs:LA}{ps:List LB}(h:bs.map tl=ps)(hs:Zez ps):∀b∈bs,b.size<=300000:=fun b hb=>by
 have:=hs (tl b) (by rw[<-h];exact XU.2 ⟨b,hb,rfl⟩)
 rwa [Za]at this
theorem RcIs.short{w:World}{r:Rc}{u:U}{bs:LA}(h:RcIs w r u bs):Zez u.segs:=by
 intro p hp
 have e:u.segs=bs.map tl:=by rw[<-h.eq];rfl
 rw[e]at hp;obtain⟨b,hb,rfl⟩:=XU.1 hp;rw[Za];exact h.lseg b hb
theorem RcIs.segs{w:World}{r:Rc}{u:U}{bs:LA}(h:RcIs w r u bs):bs.map tl=u.segs:=by rw[<-h.eq];rfl
theorem RcIs.usch{w:World}{r:Rc}{u:U}{bs:LA}(h:RcIs w r u bs):tl r.sch=u.sch:=by rw[<-h.eq];rfl
theorem Zan{w w1:World}{ru rb:Rc}(hn:Nx (((w.alloc (O #[J ru.sch,J ru.nam,J ru.pw,C ru.hh,J ru.host,C ru.hp,I X (ru.port:Int),C ru.op,J ru.opath,.slice ru.so ru.sn ru.sc,C ru.hq,J ru.q,C ru.hf,J ru.fr] 101)).alloc (O #[J rb.sch,J rb.nam,J rb.pw,C rb.hh,J rb.host,C rb.hp,I X (rb.port:Int),C rb.op,J rb.opath,.slice rb.so rb.sn rb.sc,C rb.hq,J rb.q,C rb.hf,J rb.fr] 101)).alloc (O #[J ⟨#[]⟩,J ⟨#[]⟩,J ⟨#[]⟩,C false,J ⟨#[]⟩,C false,I X 0,C false,J ⟨#[]⟩,.slice none 0 0,C false,J ⟨#[]⟩,C false,J ⟨#[]⟩] 101)) w1):RecB w1 w.heap.size ru/\RecB w1 (w.heap.size+1) rb/\RecB w1 (w.heap.size+1+1) rz/\Nx w w1:=by
 refine⟨((ZbL w ru).on ((Nx.rfl.alloc _).alloc _)).on hn,?_,?_,(((Nx.rfl.alloc _).alloc _).alloc _).then hn⟩
 .have h:=ZbL (w.alloc (O #[J ru.sch,J ru.nam,J ru.pw,C ru.hh,J ru.host,C ru.hp,I X (ru.port:Int),C ru.op,J ru.opath,.slice ru.so ru.sn ru.sc,C ru.hq,J ru.q,C ru.hf,J ru.fr] 101)) rb
  rw[show(w.alloc (O #[J ru.sch,J ru.nam,J ru.pw,C ru.hh,J ru.host,C ru.hp,I X (ru.port:Int),C ru.op,J ru.opath,.slice ru.so ru.sn ru.sc,C ru.hq,J ru.q,C ru.hf,J ru.fr] 101)).heap.size=w.heap.size+1 by simp]at h
  exact(h.on (Nx.rfl.alloc _)).on hn
 .have h:=ZgI ((w.alloc (O #[J ru.sch,J ru.nam,J ru.pw,C ru.hh,J ru.host,C ru.hp,I X (ru.port:Int),C ru.op,J ru.opath,.slice ru.so ru.sn ru.sc,C ru.hq,J ru.q,C ru.hf,J ru.fr] 101)).alloc (O #[J rb.sch,J rb.nam,J rb.pw,C rb.hh,J rb.host,C rb.hp,I X (rb.port:Int),C rb.op,J rb.opath,.slice rb.so rb.sn rb.sc,C rb.hq,J rb.q,C rb.hf,J rb.fr] 101))
  rw[show((w.alloc (O #[J ru.sch,J ru.nam,J ru.pw,C ru.hh,J ru.host,C ru.hp,I X (ru.port:Int),C ru.op,J ru.opath,.slice ru.so ru.sn ru.sc,C ru.hq,J ru.q,C ru.hf,J ru.fr] 101)).alloc (O #[J rb.sch,J rb.nam,J rb.pw,C rb.hh,J rb.host,C rb.hp,I X (rb.port:Int),C rb.op,J rb.opath,.slice rb.so rb.sn rb.sc,C rb.hq,J rb.q,C rb.hf,J rb.fr] 101)).heap.size=w.heap.size+1+1 by simp]at h
  exact h.on hn
theorem Zda{w w1:World}{ru:Rc}(hn:Nx ((w.alloc (O #[J ru.sch,J ru.nam,J ru.pw,C ru.hh,J ru.host,C ru.hp,I X (ru.port:Int),C ru.op,J ru.opath,.slice ru.so ru.sn ru.sc,C ru.hq,J ru.q,C ru.hf,J ru.fr] 101)).alloc (O #[J ⟨#[]⟩,J ⟨#[]⟩,J ⟨#[]⟩,C false,J ⟨#[]⟩,C false,I X 0,C false,J ⟨#[]⟩,.slice none 0 0,C false,J ⟨#[]⟩,C false,J ⟨#[]⟩] 101)) w1):RecB w1 w.heap.size ru/\RecB w1 (w.heap.size+1) rz/\Nx w w1:=by
 refine⟨((ZbL w ru).on (Nx.rfl.alloc _)).on hn,?_,((Nx.rfl.alloc _).alloc _).then hn⟩
 have h:=ZgI (w.alloc (O #[J ru.sch,J ru.nam,J ru.pw,C ru.hh,J ru.host,C ru.hp,I X (ru.port:Int),C ru.op,J ru.opath,.slice ru.so ru.sn ru.sc,C ru.hq,J ru.q,C ru.hf,J ru.fr] 101))
 rw[show(w.alloc (O #[J ru.sch,J ru.nam,J ru.pw,C ru.hh,J ru.host,C ru.hp,I X (ru.port:Int),C ru.op,J ru.opath,.slice ru.so ru.sn ru.sc,C ru.hq,J ru.q,C ru.hf,J ru.fr] 101)).heap.size=w.heap.size+1 by simp]at h
 exact h.on hn
def Zak(u:U)(left:List UInt8)(base:U):U:=
 if left=[]then { u with segs:=base.segs,hq:=u.hq||base.hq,q:=if u.hq=true then u.q else base.q }else { u with segs:=Zc8 base.segs left u.sch }
theorem ZjD(ru rb:Rc)(u base:U)(bs cs:LA)(left:BA)(w:World)(h1:RcIs w ru u bs)(h2:RcIs w rb base cs)(hcs:cs.length<=60000)(hl:left.size<=30000)(ht:Tb w):Calls prog 229 #[.agg #[J ru.sch,J ru.nam,J ru.pw,C ru.hh,J ru.host,C ru.hp,I X (ru.port:Int),C ru.op,J ru.opath,.slice ru.so ru.sn ru.sc,C ru.hq,J ru.q,C ru.hf,J ru.fr],J left,.agg #[J rb.sch,J rb.nam,J rb.pw,C rb.hh,J rb.host,C rb.hp,I X (rb.port:Int),C rb.op,J rb.opath,.slice rb.so rb.sn rb.sc,C rb.hq,J rb.q,C rb.hf,J rb.fr]] w fun e w'=>∃(r:Rc) (ds:LA),e=Y (.agg #[J r.sch,J r.nam,J r.pw,C r.hh,J r.host,C r.hp,I X (r.port:Int),C r.op,J r.opath,.slice r.so r.sn r.sc,C r.hq,J r.q,C r.hf,J r.fr])/\RcIs w' r (Zak u (tl left) base) ds/\ds.length<=cs.length+30001/\Nx w w':=by
 have HU:=A h1;have HBS:=A h2;have HTB:=A ht;clear h1 h2 ht
 by_cases h0:left.size=0
 .have HE:=A (show Zak u (tl left) base={ u with segs:=base.segs,hq:=u.hq||base.hq,q:=if u.hq=true then u.q else base.q }from ifP (Zz h0))
  have h0':=Zo h0;clear h0
  go_enter func229,ntmps229
  go_wp2_with fail
  refine(ZoU _ cs _ (HBS.o.seg.on (((Nx.rfl.alloc _).alloc _).alloc _)).1 (by omega)).mono ?_
  rintro e w1 ⟨v1,rfl,ho,hn⟩;obtain⟨ao,n,cap,rfl⟩:=ZT ho;obtain⟨g1,g2,g3,g4⟩:=Zan hn
  have HO:=A (Zaz ho (by have:=HTB.o.2.2;try simp[World.setCell];omega))
  have HUB:=A g1;have HBB:=A g2;have HZ:=A g3;have HN:=A g4;clear ho hn g1 g2 g3 g4;obtain⟨a0,a1,a2,a3,a4,a5,a6,a7,a8,a9,a10,a11,a12,a13⟩:=HUB.o.cells;have af9:=HUB.o.free 9;have af10:=HUB.o.free 10;have af11:=HUB.o.free 11;obtain⟨-,-,-,-,-,-,-,-,-,-,b10,b11,-,-⟩:=HBB.o.cells;obtain⟨z0,z1,z2,z3,z4,z5,z6,z7,z8,z9,z10,z11,z12,z13⟩:=HZ.o.cells;obtain⟨zf0,zf1,zf2,zf3,zf4,zf5,zf6,zf7,zf8,zf9,zf10,zf11,zf12,zf13⟩:=ZaF HZ.o.free
  cases hhq:ru.hq
  .rw[hhq]at a10
   go_wp2
   refine Zfv (rb:=w.heap.size+1+1) results229 rfl (RecB.put (((HZ.o.far (by omega) 9 _).far (by omega) 10 _).far (by omega) 11 _) _ _ _ _ _ _ _ _ _ _ _ _ _ _) rfl ⟨{ ru with so:=ao,sn:=n,sc:=cap,hq:=rb.hq,q:=rb.q },cs,rfl,?_,by omega,(Zi (Below.setCell (Below.setCell (Below.setCell HN.o (Xb _) _) (Xb _) _) (Xb _) _) (by omega) _ _ _ _ _ _ _ _ _ _ _ _ _ _)⟩
   exact { eq:=by rw[HE.o,<-HU.o.eq,<-HBS.o.eq];simp[Rc.u,hhq]
           seg:=HO.o.ks (Ks.then (Ks.then (Ks.then (Ks.then Ks.rfl (Zae HUB.o.ty (by decide) 9 _)) (Zae (HUB.o.ty.set w.heap.size 9 _) (by decide) 10 _)) (Zae ((HUB.o.ty.set w.heap.size 9 _).set w.heap.size 10 _) (by decide) 11 _)) (ZH (((HZ.o.ty.set w.heap.size 9 _).set w.heap.size 10 _).set w.heap.size 11 _) (by decide) _ _ _ _ _ _ _ _ _ _ _ _ _ _))
           lsch:=HU.o.lsch
           lnam:=HU.o.lnam
           lpw:=HU.o.lpw
           lhost:=HU.o.lhost
           lport:=HU.o.lport
           lopath:=HU.o.lopath
           lsegs:=HBS.o.lsegs
           lseg:=HBS.o.lseg
           lq:=HBS.o.lq
           lfr:=HU.o.lfr }
  .rw[hhq]at a10
   go_wp2
   refine Zfv (rb:=w.heap.size+1+1) results229 rfl (RecB.put (HZ.o.far (by omega) 9 _) _ _ _ _ _ _ _ _ _ _ _ _ _ _) rfl ⟨{ ru with so:=ao,sn:=n,sc:=cap,hq:=true },cs,rfl,?_,by omega,(Zi (Below.setCell HN.o (Xb _) _) (by omega) _ _ _ _ _ _ _ _ _ _ _ _ _ _)⟩
   exact { eq:=by rw[HE.o,<-HU.o.eq,<-HBS.o.eq];simp[Rc.u,hhq]
           seg:=HO.o.ks (Ks.then (Ks.then Ks.rfl (Zae HUB.o.ty (by decide) 9 _)) (ZH (HZ.o.ty.set w.heap.size 9 _) (by decide) _ _ _ _ _ _ _ _ _ _ _ _ _ _))
           lsch:=HU.o.lsch
           lnam:=HU.o.lnam
           lpw:=HU.o.lpw
           lhost:=HU.o.lhost
           lport:=HU.o.lport
           lopath:=HU.o.lopath
           lsegs:=HBS.o.lsegs
           lseg:=HBS.o.lseg
           lq:=HU.o.lq
           lfr:=HU.o.lfr }
 .have HE:=A (show Zak u (tl left) base={ u with segs:=Zc8 base.segs (tl left) u.sch }from ifN (ZdF h0))
  have h0':=Zj h0;clear h0
  go_enter func229,ntmps229
  go_wp2_with fail
  refine(Znk _ cs left ru.sch _ (HBS.o.seg.on (((Nx.rfl.alloc _).alloc _).alloc _)).1 (by omega) (by omega)).mono ?_
  rintro e w1 ⟨v1,ds,rfl,ho,hds,hdl,hn⟩;obtain⟨ao,n,cap,rfl⟩:=ZT ho;obtain⟨g1,g2,g3,g4⟩:=Zan hn
  have HO:=A (Zaz ho (by have:=HTB.o.2.2;try simp[World.setCell];omega))
  have HUB:=A g1;have HZ:=A g3;have HN:=A g4;have HDS:=A hds
  have HSH:=A (ZbG (hds.trans (by rw[HBS.o.segs])) (ZkC HBS.o.short (by rw[Za];exact hl)))
  clear ho hn g1 g2 g3 g4 hds;obtain⟨a0,a1,a2,a3,a4,a5,a6,a7,a8,a9,a10,a11,a12,a13⟩:=HUB.o.cells;have af9:=HUB.o.free 9;obtain⟨z0,z1,z2,z3,z4,z5,z6,z7,z8,z9,z10,z11,z12,z13⟩:=HZ.o.cells;obtain⟨zf0,zf1,zf2,zf3,zf4,zf5,zf6,zf7,zf8,zf9,zf10,zf11,zf12,zf13⟩:=ZaF HZ.o.free;go_wp2
  refine Zfv (rb:=w.heap.size+1+1) results229 rfl (RecB.put (HZ.o.far (by omega) 9 _) _ _ _ _ _ _ _ _ _ _ _ _ _ _) rfl ⟨{ ru with so:=ao,sn:=n,sc:=cap },ds,rfl,?_,by omega,(Zi (Below.setCell HN.o (Xb _) _) (by omega) _ _ _ _ _ _ _ _ _ _ _ _ _ _)⟩
  exact { eq:=by rw[HE.o,<-HU.o.eq,<-HBS.o.eq];simp only[Rc.u];rw[HDS.o]
          seg:=HO.o.ks (Ks.then (Ks.then Ks.rfl (Zae HUB.o.ty (by decide) 9 _)) (ZH (HZ.o.ty.set w.heap.size 9 _) (by decide) _ _ _ _ _ _ _ _ _ _ _ _ _ _))
          lsch:=HU.o.lsch
          lnam:=HU.o.lnam
          lpw:=HU.o.lpw
          lhost:=HU.o.lhost
          lport:=HU.o.lport
          lopath:=HU.o.lopath
          lsegs:=by omega
          lseg:=HSH.o
          lq:=HU.o.lq
          lfr:=HU.o.lfr }
end Go.Proofs.YtchkhibgbnhjpabGreatDoor
