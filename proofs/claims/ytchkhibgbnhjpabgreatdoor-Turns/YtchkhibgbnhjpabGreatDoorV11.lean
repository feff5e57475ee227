import Derived.Test.YtchkhibgbnhjpabGreatDoorV10
open Array renaming getElem?_modify→Xc,getElem?_eq_some_iff→Xh
open List renaming append_nil→Xa,length_take→Xb,take_succ_eq_append_getElem→Xd,length_drop→Xe,dropWhile_append_of_pos→Xg,dropWhile_cons_of_neg→Xi,drop_of_length_le→Xj,take_append_drop→Xk,mem_of_mem_take→Xl,mem_cons_of_mem→Xm,reverse_append→Xn,length_append→Xp,mem_singleton→Xq,mem_cons_self→Xr,getElem_drop→Xs,getElem_mem→Xt,all_eq_true→Xu,mem_append→Xv,drop_drop→Xw,drop_take→Xx,drop_zero→Xy,mem_cons→Xz,mem_map→XA
open Nat renaming zero_le→Xf,le_refl→Xo
namespace Go.Proofs.YtchkhibgbnhjpabGreatDoor
open Go.RowKit
set_option maxHeartbeats 8000000
def Zl(u:U):List UInt8:=if u.hp=true then u.host++[58]++ZC u else u.host
theorem Zde(r:Rc)(u:U)(bs:LA)(w:World)(h:RcIs w r u bs)(ht:Tb w):Calls Tryz.prog 84 #[.agg #[.string r.sch,.string r.nam,.string r.pw,.bool r.hh,.string r.host,.bool r.hp,.int .i64 (r.port:Int),.bool r.op,.string r.opath,.slice r.so r.sn r.sc,.bool r.hq,.string r.q,.bool r.hf,.string r.fr]] w fun e w'=>∃t:BA,e=.returned (.string t)∧tl t=Zl u∧t.size≤600000∧Nx w w':=by
 have hs:=h.lhost
 have HD:=Za (show Zl u=if r.hp=true then tl r.host++[58]++ZC u else tl r.host by rw[←h.eq];rfl)
 have HTB:=Za ht;have HRC:=Za h;have HB:=Za (ZaS w r);clear h ht
 cases hhp:r.hp
 ·have HE:=Za (HD.out.trans (if_neg (by rw[hhp];decide)))
  clear HD
  go_enter Tryz.func84,Tryz.ntmps84
  go_wp2;go_ret
  exact⟨r.host,rfl,HE.out.symm,by omega,Nx.rfl.alloc _⟩
 ·have HE:=Za (HD.out.trans (if_pos hhp))
  have HPT:=Za (fun w1 (hn:Nx w w1)=>ZeW r u bs w1 (HRC.out.on hn) (HTB.out.on hn))
  rw[hhp]at HPT HB;clear HD
  go_enter Tryz.func84,Tryz.ntmps84
  go_wp2
  go_region_with (go_at_call 85;refine(HPT.out _ ((Nx.rfl.alloc _).drew)).mono ?_;rintro e w1 ⟨x,rfl,hx,hxs,hn⟩;obtain⟨-,-,-,-,hc4,-⟩:=(RecB.on (RecB.on HB.out Nx.rfl.drew) hn).cells;have HX:=Za hx;have HN:=Za (show Nx w w1 from((Nx.rfl.alloc _).drew).then hn);clear hx hn)
  all_goals go_wp2
  all_goals go_ret
  all_goals exact⟨r.host++(⟨#[58]⟩:BA)++x,rfl,by rw[HE.out,Zc,Zc,HX.out];rfl,by rw[Zm,Zm];show r.host.size+1+x.size≤_;omega,HN.out⟩
def joinSl(ps:List (List UInt8)):List UInt8:=ps.flatMap fun s=>[47]++s
def pathU(u:U):List UInt8:=if u.op=true then u.opath else joinSl u.segs
theorem joinSl_snoc(ps:List LB)(s:LB):joinSl (ps++[s])=joinSl ps++([47]++s):=by simp[joinSl]
theorem Zdf(r:Rc)(u:U)(bs:LA)(w:World)(h:RcIs w r u bs):Calls Tryz.prog 86 #[.agg #[.string r.sch,.string r.nam,.string r.pw,.bool r.hh,.string r.host,.bool r.hp,.int .i64 (r.port:Int),.bool r.op,.string r.opath,.slice r.so r.sn r.sc,.bool r.hq,.string r.q,.bool r.hf,.string r.fr]] w fun e w'=>∃t:BA,e=.returned (.string t)∧tl t=pathU u∧t.size≤200000000000∧Nx w w':=by
 have HD:=Za (show pathU u=if r.op=true then tl r.opath else joinSl (bs.map tl)by rw[←h.eq];rfl)
 have hlo:=h.lopath;have hls:=h.lsegs;have HLS:=Za h.lseg;have hseg:=h.seg;clear h;obtain⟨sch,nam,pw,hh,host,hp,port,op,opath,so,sn,sc,hq,q,hf,fr⟩:=r;simp only at *;obtain⟨ao,cap,he,hlc,hcap,hnone,hsome⟩:=hseg;simp only[Value.slice.injEq]at he;obtain⟨rfl,rfl,rfl⟩:=he;unfold maxLen at hcap
 cases op
 ·have HE:=Za (HD.out.trans (if_neg (by decide)))
  clear HD
  go_enter Tryz.func86,Tryz.ntmps86
  go_wp2
  go_loop [3,4] (fun t i=>∃(k:Nat) (txt:BA),k≤bs.length∧t=.string txt∧i=.int .i64 k∧tl txt=joinSl ((bs.take k).map tl)∧txt.size≤300001*k) (fun _ i=>bs.length-(intOf i).toNat)
  case atStart=>exact⟨0,⟨#[]⟩,Xf _,rfl,rfl,rfl,by decide⟩
  case round=>
   obtain⟨k,txt,hk,rfl,rfl,hE,hsz⟩:=hrel;have HT:=Za hE;clear hE
   by_cases hlt:k<bs.length
   ·obtain⟨a,ha⟩:=Zbm hlt hnone
    subst ha;obtain⟨b,off,rfl,hr⟩:=hsome a rfl;have hck:=(hr.on (Nx.rfl.alloc (Obj.cells #[.string sch,.string nam,.string pw,.bool hh,.string host,.bool hp,.int .i64 (port:Int),.bool false,.string opath,.slice (some ⟨b,off,none⟩) bs.length sc,.bool hq,.string q,.bool hf,.string fr] 101))).cell hlt;have hbz:=HLS.out _ (Xt hlt)
    have HS:=Za (show(bs.take (k+1)).map tl=(bs.take k).map tl++[tl bs[k]]by rw[Xd hlt,List.map_append];rfl)
    clear hnone hsome hr;generalize bs[k]=p at *;go_wp2
    go_round
    case rel=>exact⟨k+1,txt++((⟨#[47]⟩:BA)++p),by omega,rfl,by go_num,by rw[HS.out,joinSl_snoc,Zc,Zc,HT.out];rfl,by rw[Zm,Zm];show txt.size+(1+p.size)≤_;omega⟩
    case measure=>simp[intOf];omega
   ·have HF:=Za (show tl txt=pathU u by rw[HT.out,HE.out,List.take_of_length_le (by omega)])
    have hz2:txt.size≤200000000000:=by
     have:300001*k≤300001*300000:=Nat.mul_le_mul_left _ (by omega)
     omega
    clear hnone hsome;go_wp2;go_ret;exact⟨txt,rfl,HF.out,hz2,Nx.rfl.alloc _⟩
 ·have HE:=Za (HD.out.trans (if_pos rfl))
  clear HD hnone hsome
  go_enter Tryz.func86,Tryz.ntmps86
  go_wp2;go_ret
  exact⟨opath,rfl,HE.out.symm,by omega,Nx.rfl.alloc _⟩
def Zbb(u:U):List UInt8:=if u.hh=true then [47,47]++userU u++Zl u else if u.op=false∧1<u.segs.length∧u.segs.getD 0 []=[]then [47,46]else []
theorem ZnW(r:Rc)(u:U)(bs:LA)(w:World)(h:RcIs w r u bs)(ht:Tb w):Calls Tryz.prog 144 #[.agg #[.string r.sch,.string r.nam,.string r.pw,.bool r.hh,.string r.host,.bool r.hp,.int .i64 (r.port:Int),.bool r.op,.string r.opath,.slice r.so r.sn r.sc,.bool r.hq,.string r.q,.bool r.hf,.string r.fr]] w fun e w'=>∃t:BA,e=.returned (.string t)∧tl t=Zbb u∧t.size≤3000000∧Nx w w':=by
 have HD:=Za (show Zbb u=if r.hh=true then [47,47]++userU u++Zl u else if r.op=false∧1<bs.length∧(bs.map tl).getD 0 []=[]then [47,46]else []by rw[←List.length_map (f:=tl),←h.eq];rfl)
 have HTB:=Za ht;have HRC:=Za h;have HB:=Za (ZaS w r);clear h ht
 cases hhh:r.hh
 ·have HE:=Za (HD.out.trans (if_neg (by rw[hhh];decide)))
  have hseg:=HRC.out.seg;have hls:=HRC.out.lsegs;clear HD HRC HB;obtain⟨sch,nam,pw,hh,host,hp,port,op,opath,so,sn,sc,hq,q,hf,fr⟩:=r;simp only at *;obtain⟨ao,cap,he,hlc,hcap,hnone,hsome⟩:=hseg;simp only[Value.slice.injEq]at he;obtain⟨rfl,rfl,rfl⟩:=he;unfold maxLen at hcap;subst hhh
  cases op
  ·by_cases h1:1<bs.length
   ·have hpos:0<bs.length:=by omega
    obtain⟨a,ha⟩:=Zbm (k:=0) hpos hnone;subst ha;obtain⟨b,off,rfl,hr⟩:=hsome a rfl;have hck:=(hr.on (Nx.rfl.alloc (Obj.cells #[.string sch,.string nam,.string pw,.bool false,.string host,.bool hp,.int .i64 (port:Int),.bool false,.string opath,.slice (some ⟨b,off,none⟩) bs.length sc,.bool hq,.string q,.bool hf,.string fr] 101))).cell (i:=0) hpos;rw[Nat.add_zero]at hck;rw[Zhv bs hpos]at HE;clear hnone hsome hr
    by_cases h0:bs[0].size=0
    ·have HE2:=Za (HE.out.trans (if_pos ⟨rfl,h1,Zz h0⟩))
     have h0':=Zf h0;clear HE h0
     go_enter Tryz.func144,Tryz.ntmps144
     go_wp2;go_ret
     exact⟨⟨#[47,46]⟩,rfl,HE2.out.symm,by decide,Nx.rfl.alloc _⟩
    ·have HE2:=Za (HE.out.trans (if_neg (fun h=>ZcC h0 h.2.2)))
     have h0':=Ze h0;clear HE h0
     go_enter Tryz.func144,Tryz.ntmps144
     go_wp2;go_ret
     exact⟨⟨#[]⟩,rfl,HE2.out.symm,by decide,Nx.rfl.alloc _⟩
   ·have HE2:=Za (HE.out.trans (if_neg (fun h=>h1 h.2.1)))
    clear HE hnone hsome
    go_enter Tryz.func144,Tryz.ntmps144
    go_wp2;go_ret
    exact⟨⟨#[]⟩,rfl,HE2.out.symm,by decide,Nx.rfl.alloc _⟩
  ·have HE2:=Za (HE.out.trans (if_neg (fun h=>by cases h.1)))
   clear HE hnone hsome
   go_enter Tryz.func144,Tryz.ntmps144
   go_wp2;go_ret
   exact⟨⟨#[]⟩,rfl,HE2.out.symm,by decide,Nx.rfl.alloc _⟩
 ·have HE:=Za (HD.out.trans (if_pos hhh))
  have HU:=Za (fun w1 (hn:Nx w w1)=>ZpX r u bs w1 (HRC.out.on hn))
  have HHP:=Za (fun w1 (hn:Nx w w1)=>Zde r u bs w1 (HRC.out.on hn) (HTB.out.on hn))
  rw[hhh]at HU HHP HB;clear HD
  go_enter Tryz.func144,Tryz.ntmps144
  go_wp2_with fail
  refine(HU.out _ (Nx.rfl.alloc _)).mono ?_
  rintro e w1 ⟨x,rfl,hx,hxs,hn⟩;obtain⟨c0,c1,c2,c3,c4,c5,c6,c7,c8,c9,c10,c11,c12,c13⟩:=(RecB.on HB.out hn).cells;rw[hhh]at c3;have HX:=Za hx;have HN:=Za (show Nx w w1 from(Nx.rfl.alloc _).then hn);clear hx hn;go_wp2_with fail
  refine(HHP.out _ HN.out).mono ?_
  rintro e w2 ⟨y,rfl,hy,hys,hn2⟩;have HY:=Za hy;have HN2:=Za (HN.out.then hn2);clear hy hn2 c0 c1 c2 c3 c4 c5 c6 c7 c8 c9 c10 c11 c12 c13;go_wp2;go_ret
  exact⟨(⟨#[47,47]⟩:BA)++x++y,rfl,by rw[HE.out,Zc,Zc,HX.out,HY.out];rfl,by rw[Zm,Zm];show 2+x.size+y.size≤_;omega,HN2.out⟩
def Zdg(u:U):List UInt8:=Zad u++Zbb u++pathU u++(if u.hq=true then [63]++u.q else [])++(if u.hf=true then [35]++u.fr else [])
theorem Zk5(r:Rc)(u:U)(bs:LA)(w:World)(h:RcIs w r u bs)(ht:Tb w):Calls Tryz.prog 81 #[.agg #[.string r.sch,.string r.nam,.string r.pw,.bool r.hh,.string r.host,.bool r.hp,.int .i64 (r.port:Int),.bool r.op,.string r.opath,.slice r.so r.sn r.sc,.bool r.hq,.string r.q,.bool r.hf,.string r.fr]] w fun e w'=>∃t:BA,e=.returned (.string t)∧tl t=Zdg u∧Nx w w':=by
 have HD:=Za (show Zdg u=Zad u++Zbb u++pathU u++(if r.hq=true then [63]++tl r.q else [])++(if r.hf=true then [35]++tl r.fr else [])by rw[←h.eq];rfl)
 have hlq:=h.lq;have hlf:=h.lfr
 have hlp:Zad u=tl r.sch++[58]:=by rw[←h.eq];rfl
 have hls:=h.lsch;have HTB:=Za ht;have HRC:=Za h;have HB:=Za (ZaS w r);clear h ht
 go_enter Tryz.func81,Tryz.ntmps81
 go_wp2_with fail
 refine(ZeV r u bs _ (HRC.out.on (Nx.rfl.alloc _))).mono ?_
 rintro e w1 ⟨x1,rfl,hx1,hn1⟩
 have hz1:x1.size≤600000:=by have:=congrArg List.length (hx1.trans hlp);rw[tl_length,Xp,tl_length]at this;simp at this;omega
 have HX1:=Za hx1;have HN1:=Za (show Nx w w1 from(Nx.rfl.alloc _).then hn1);have HB1:=Za (RecB.on HB.out hn1);clear hx1 hn1 hlp HB;obtain⟨c0,c1,c2,c3,c4,c5,c6,c7,c8,c9,c10,c11,c12,c13⟩:=HB1.out.cells;go_wp2_with fail
 refine(ZnW r u bs _ (HRC.out.on HN1.out) (HTB.out.on HN1.out)).mono ?_
 rintro e w2 ⟨x2,rfl,hx2,hz2,hn2⟩;have HX2:=Za hx2;have HN2:=Za (HN1.out.then hn2);have HB2:=Za (RecB.on HB1.out hn2);clear hx2 hn2 HB1 c0 c1 c2 c3 c4 c5 c6 c7 c8 c9 c10 c11 c12 c13;obtain⟨c0,c1,c2,c3,c4,c5,c6,c7,c8,c9,c10,c11,c12,c13⟩:=HB2.out.cells;go_wp2_with fail
 refine(Zdf r u bs _ (HRC.out.on HN2.out)).mono ?_
 rintro e w3 ⟨x3,rfl,hx3,hz3,hn3⟩;have HX3:=Za hx3;have HN3:=Za (HN2.out.then hn3);have HB3:=Za (RecB.on HB2.out hn3);clear hx3 hn3 HB2 c0 c1 c2 c3 c4 c5 c6 c7 c8 c9 c10 c11 c12 c13;obtain⟨-,-,-,-,-,-,-,-,-,-,c10,c11,c12,c13⟩:=HB3.out.cells
 cases hhq:r.hq
 ·rw[hhq]at c10
  rw[hhq]at HD
  cases hhf:r.hf
  ·rw[hhf]at c12
   rw[hhf]at HD;go_wp2;go_ret
   exact⟨x1++x2++x3,rfl,by rw[HD.out,if_neg (by decide),if_neg (by decide),Zc,Zc,HX1.out,HX2.out,HX3.out,Xa,Xa],HN3.out⟩
  ·rw[hhf]at c12
   rw[hhf]at HD;go_wp2;go_ret
   exact⟨x1++x2++x3++((⟨#[35]⟩:BA)++r.fr),rfl,by rw[HD.out,if_neg (by decide),if_pos trivial,Zc,Zc,Zc,Zc,HX1.out,HX2.out,HX3.out,Xa];rfl,HN3.out⟩
 ·rw[hhq]at c10
  rw[hhq]at HD
  cases hhf:r.hf
  ·rw[hhf]at c12
   rw[hhf]at HD;go_wp2;go_ret
   exact⟨x1++x2++x3++((⟨#[63]⟩:BA)++r.q),rfl,by rw[HD.out,if_pos trivial,if_neg (by decide),Zc,Zc,Zc,Zc,HX1.out,HX2.out,HX3.out,Xa];rfl,HN3.out⟩
  ·rw[hhf]at c12
   rw[hhf]at HD;go_wp2;go_ret
   exact⟨x1++x2++x3++((⟨#[63]⟩:BA)++r.q)++((⟨#[35]⟩:BA)++r.fr),rfl,by rw[HD.out,if_pos trivial,if_pos trivial,Zc,Zc,Zc,Zc,Zc,Zc,HX1.out,HX2.out,HX3.out];rfl,HN3.out⟩
def Z2(b:UInt8):Bool:=decide ((b.toNat:Int)≤32)
def trimB(l:List UInt8):List UInt8:=((l.dropWhile Z2).reverse.dropWhile Z2).reverse
theorem ZiB(s:BA)(k:Nat)(h1:((tl s).take k).all Z2=true)(h2:(h:k<s.size)→Z2 s[k]=false):(tl s).dropWhile Z2=(tl s).drop k:=by
 have e:=Xk k (tl s)
 conv=>lhs;rw[←e]
 rw[Xg (by intro a ha;exact Xu.1 h1 a ha)]
 rcases Nat.lt_or_ge k s.size with h|h
 ·rw[ZU s k h,Xi (by rw[h2 h];decide)]
 ·rw[Zy s k h];rfl
theorem Zei(l:LB)(m:Nat)(hm:m≤l.length)(h1:(l.drop m).all Z2=true)(h2:(h:0<m)→Z2 (l[m-1]'(by omega))=false):(l.reverse.dropWhile Z2).reverse=l.take m:=by
 have e:=Xk m l
 conv=>lhs;rw[←e]
 rw[Xn,Xg (by intro a ha;exact Xu.1 h1 a (List.mem_reverse.1 ha))]
 rcases Nat.eq_zero_or_pos m with h|h
 ·subst h;simp
 ·have hs:l.take m=l.take (m-1)++[l[m-1]'(by omega)]:=by
   rw[←Xd (by omega)]
   congr 1
   omega
  rw[hs,Xn,List.reverse_singleton,List.singleton_append,Xi (by rw[h2 h];decide)]
  simp
theorem all_snoc(p:UInt8→Bool)(l:LB)(b:UInt8):(l++[b]).all p=(l.all p&&p b):=by simp
theorem ZpY(s:BA)(w:World)(hs:s.size≤1000000):Calls Tryz.prog 139 #[.string s] w fun e w'=>∃r:BA,e=.returned (.string r)∧tl r=trimB (tl s)∧r.size≤s.size∧w=w':=by
 go_enter Tryz.func139,Tryz.ntmps139
 go_wp2
 go_loop [3] (fun i=>∃k:Nat,k≤s.size∧i=.int .i64 k∧((tl s).take k).all Z2=true) (fun i=>s.size-(intOf i).toNat)
 case atStart=>exact⟨0,Xf _,rfl,rfl⟩
 case round=>
  obtain⟨k,hk,rfl,ha⟩:=hrel;have HA:=Za ha;clear ha
  have main:∀(hb:(h:k<s.size)→Z2 s[k]=false),Hid ((tl s).dropWhile Z2=(tl s).drop k):=fun hb=>Za (ZiB s k HA.out hb)
  have second:(hstop:Hid ((tl s).dropWhile Z2=(tl s).drop k))→True:=fun _=>trivial
  clear second
  by_cases hlt:k<s.size
  ·have hb:=bb s[k]
   by_cases hc:(s[k].toNat:Int)≤32
   ·have HN:=Za (show((tl s).take (k+1)).all Z2=true by rw[ZG s k hlt,all_snoc,HA.out];simp[Z2,hc])
    clear main;go_wp2
    go_round
    case rel=>exact⟨k+1,by omega,by go_num,HN.out⟩
    case measure=>simp[intOf];omega
   ·have HD:=main (fun _=>by simp[Z2];omega)
    clear main;go_wp2
    go_loop [4] (fun i=>∃m:Nat,k≤m∧m≤s.size∧i=.int .i64 m∧((tl s).drop m).all Z2=true) (fun i=>(intOf i).toNat)
    case atStart=>exact⟨s.size,by omega,Xo _,rfl,by rw[Zy s _ (Xo _)];rfl⟩
    case round=>
     obtain⟨m,hkm,hm,rfl,hal⟩:=hrel;have HAL:=Za hal;clear hal
     by_cases hgt:k<m
     ·have hm1:m-1<s.size:=by omega
      have hb1:=bb (s[m-1]'hm1)
      by_cases hc1:((s[m-1]'hm1).toNat:Int)≤32
      ·have HN:=Za (show((tl s).drop (m-1)).all Z2=true by rw[ZU s (m-1) hm1,List.all_cons,show m-1+1=m by omega,HAL.out];simp[Z2,hc1])
       go_wp2
       go_round
       case rel=>exact⟨m-1,by omega,by omega,by rw[show((m-1:Nat):Int)=(m:Int)-1 by omega],HN.out⟩
       case measure=>simp[intOf];omega
      ·have HF:=Za (show tl (s.extract k m)=trimB (tl s)by
        unfold trimB
        rw[HD.out,tl_extract,Zei ((tl s).drop k) (m-k) (by rw[Xe,tl_length];omega) (by rw[Xw,show k+(m-k)=m by omega];exact HAL.out) (fun h=>by rw[Xs];show Z2 ((tl s)[k+(m-k-1)]'_)=false;simp only[show k+(m-k-1)=m-1 by omega];rw[Zft s (m-1) hm1];simp[Z2];omega),Xx])
       have hez:(s.extract k m).size≤s.size:=ZdC s k m;go_wp2;go_ret;exact⟨s.extract k m,rfl,HF.out,hez,rfl⟩
     ·have HF:=Za (show tl (s.extract k m)=trimB (tl s)by
       unfold trimB
       rw[HD.out,tl_extract,Zei ((tl s).drop k) (m-k) (by rw[Xe,tl_length];omega) (by rw[Xw,show k+(m-k)=m by omega];exact HAL.out) (fun h=>by omega),Xx])
      have hez:(s.extract k m).size≤s.size:=ZdC s k m;go_wp2;go_ret;exact⟨s.extract k m,rfl,HF.out,hez,rfl⟩
  ·have HD:=main (fun h=>absurd h hlt)
   clear main;go_wp2
   go_loop [4] (fun i=>∃m:Nat,k≤m∧m≤s.size∧i=.int .i64 m) (fun i=>(intOf i).toNat)
   case atStart=>exact⟨s.size,by omega,Xo _,rfl⟩
   case round=>
    obtain⟨m,hkm,hm,rfl⟩:=hrel
    have HF:=Za (show tl (s.extract k m)=trimB (tl s)by
     unfold trimB
     rw[HD.out,tl_extract,Zy s k (by omega),Xj (by rw[Xb,tl_length];omega)]
     rfl)
    have hez:(s.extract k m).size≤s.size:=ZdC s k m
    have hgt:¬k<m:=by omega
    go_wp2;go_ret;exact⟨s.extract k m,rfl,HF.out,hez,rfl⟩
def Zc3(b:UInt8):Bool:=(b.toNat:Int)==9||(b.toNat:Int)==10||(b.toNat:Int)==13
def noBreaks(l:List UInt8):List UInt8:=l.filter fun b=>!Zc3 b
theorem ZhG(l:LB)(b:UInt8):noBreaks (l++[b])=noBreaks l++(if Zc3 b=true then []else [b]):=by
 unfold noBreaks;rw[List.filter_append]
 cases h:Zc3 b<;>simp[h]
theorem Zdh(l:LB):(noBreaks l).length≤l.length:=List.length_filter_le _ _
theorem ZiC(s:BA)(w:World)(hs:s.size≤1000000):Calls Tryz.prog 140 #[.string s] w fun e w'=>∃r:BA,e=.returned (.string r)∧tl r=noBreaks (tl s)∧Nx w w':=by
 go_enter Tryz.func140,Tryz.ntmps140
 go_wp2
 go_loopw [3,4] (fun o i wr=>∃k:Nat,k≤s.size∧i=.int .i64 k∧Zhq wr w.heap.size o (noBreaks ((tl s).take k))∧Nx w wr) (fun _ i _=>s.size-(intOf i).toNat)
 case atStart=>exact⟨0,Xf _,rfl,ZcB w,Nx.rfl.alloc _⟩
 case round=>
  obtain⟨k,hk,rfl,hown,hnx⟩:=hrel
  by_cases hlt:k<s.size
  ·have hb:=bb s[k]
   have HTK:=Za ((congrArg noBreaks (ZG s k hlt)).trans (ZhG _ _));have hz:=hnx.size
   have hsz:(noBreaks ((tl s).take k)).length<1099511627776:=by have h:=Zdh ((tl s).take k);have:=List.length_take_le k (tl s);omega
   have HO:=Za hown;have HN:=Za hnx;have HT2:=Za (ZdA s[k])
   have HBR:=Za (show Zc3 s[k]=((s[k].toNat:Int)==9||(s[k].toNat:Int)==10||(s[k].toNat:Int)==13)from rfl);clear hown hnx
   cases h9:((s[k].toNat:Int)==9)
   ·have n9:=Zd9 h9
    cases h10:((s[k].toNat:Int)==10)
    ·have n10:=Zd9 h10
     cases h13:((s[k].toNat:Int)==13)
     ·have n13:=Zd9 h13
      have HB:=Za (show Zc3 s[k]=false by rw[HBR.out,h9,h10,h13];rfl)
      go_wp2_with (at_builtin;go_must (refine Zbn wr (s[k].toNat:Int) rfl _ _ rfl w.heap.size _ _ rfl HO.out rfl (by omega) (by omega) hsz hz ?_;intro v' w2 ho1 hb1 hk1;have HO1:=Za ho1;clear ho1))
      go_roundw
      case rel=>exact⟨k+1,by omega,by go_num,by rw[HTK.out,if_neg (by rw[HB.out];decide)];have h:=HO1.out;rw[HT2.out]at h;exact h,HN.out.trans hb1⟩
      case measure=>simp[intOf];omega
     ·have n13:=Zpz h13
      have HB:=Za (show Zc3 s[k]=true by rw[HBR.out,h13];simp)
      go_wp2
      go_roundw
      case rel=>exact⟨k+1,by omega,by go_num,by rw[HTK.out,if_pos HB.out,Xa];exact HO.out,HN.out⟩
      case measure=>simp[intOf];omega
    ·have n10:=Zpz h10
     have HB:=Za (show Zc3 s[k]=true by rw[HBR.out,h10];simp)
     go_wp2
     go_roundw
     case rel=>exact⟨k+1,by omega,by go_num,by rw[HTK.out,if_pos HB.out,Xa];exact HO.out,HN.out⟩
     case measure=>simp[intOf];omega
   ·have n9:=Zpz h9
    have HB:=Za (show Zc3 s[k]=true by rw[HBR.out,h9];simp)
    go_wp2
    go_roundw
    case rel=>exact⟨k+1,by omega,by go_num,by rw[HTK.out,if_pos HB.out,Xa];exact HO.out,HN.out⟩
    case measure=>simp[intOf];omega
  ·rw[Zah s k (by omega)]at hown
   have hcv:=Zdy hown;have HN:=Za hnx;clear hown hnx;go_wp2;go_ret;exact⟨_,rfl,tl_mk _,HN.out⟩
def ZfP(b:UInt8):Bool:=(b.toNat:Int)==43||(b.toNat:Int)==45||(b.toNat:Int)==46||decide (48≤(b.toNat:Int)∧(b.toNat:Int)≤57)||Zbv b.toNat
def Zbq(l:List UInt8):Bool:=match l with | []=>false|c::r=>Zbv c.toNat&&r.all ZfP
theorem Zgt(p:UInt8→Bool)(s:BA)(k:Nat)(h:k<s.size)(he:p s[k]=false)(h1:1≤k):((tl s).drop 1).all p=false:=by
 rw[List.all_eq_false]
 refine⟨s[k],?_,by rw[he];decide⟩
 rw[←Zft s k h]
 rw[show(tl s)[k]'(by rw[tl_length];exact h)=((tl s).drop 1)[k-1]'(by rw[Xe,tl_length];omega)by rw[Xs];congr 1;omega]
 exact Xt _
theorem ZfQ(s:BA)(w:World)(hs:s.size≤1000000):Calls Tryz.prog 221 #[.string s] w fun e w'=>e=.returned (.bool (Zbq (tl s)))∧w=w':=by
 by_cases h0:s.size=0
 ·have HE:=Za (show Zbq (tl s)=false by rw[Zz h0];rfl)
  have h0':=Zf h0;clear h0
  go_enter Tryz.func221,Tryz.ntmps221
  go_wp2;go_ret;exact⟨Zi HE.out.symm,rfl⟩
 have hpos:0<s.size:=by omega
 have h0':=Ze h0;have hb0:=bb (s[0]'hpos)
 have HD:=Za (show Zbq (tl s)=(Zbv (s[0]'hpos).toNat&&((tl s).drop 1).all ZfP)by have:=ZU s 0 hpos;rw[Xy]at this;rw[this];rfl)
 clear h0
 cases hA:Zbv ((s[0]'hpos).toNat:Int)
 ·have HA:=Za hA
  have HE:=Za (show Zbq (tl s)=false by rw[HD.out,hA];rfl)
  clear hA
  go_enter Tryz.func221,Tryz.ntmps221
  go_wp2_with (go_at_call 253;refine(ZaZ _ _).mono ?_;rintro e w' ⟨rfl,rfl⟩;rw[HA.out])
  go_ret;exact⟨Zi HE.out.symm,rfl⟩
 ·have HA:=Za hA
  have HE:=Za (show Zbq (tl s)=((tl s).drop 1).all ZfP by rw[HD.out,hA];rfl)
  clear hA HD
  go_enter Tryz.func221,Tryz.ntmps221
  go_wp2_with (go_at_call 253;refine(ZaZ _ _).mono ?_;rintro e w' ⟨rfl,rfl⟩;rw[HA.out])
  go_loop [3] (fun i=>∃k:Nat,1≤k∧k≤s.size∧i=.int .i64 k∧(((tl s).take k).drop 1).all ZfP=true) (fun i=>s.size-(intOf i).toNat)
  case atStart=>exact⟨1,by omega,by omega,rfl,by rw[Xj (by rw[Xb];omega)];rfl⟩
  case round=>
   obtain⟨k,hk1,hk,rfl,ha⟩:=hrel;have HAL:=Za ha;clear ha
   by_cases hlt:k<s.size
   ·have hb:=bb s[k]
    have HY:=Za (show ZfP s[k]=true→(((tl s).take (k+1)).drop 1).all ZfP=true from fun h=>by
     rw[ZG s k hlt,List.drop_append_of_le_length (by rw[Xb,tl_length];omega),all_snoc,HAL.out,h];rfl)
    have HNO:=Za (show ZfP s[k]=false→Zbq (tl s)=false from fun h=>by rw[HE.out];exact Zgt ZfP s k hlt h hk1)
    have HM:=Za (show ZfP s[k]=((s[k].toNat:Int)==43||(s[k].toNat:Int)==45||(s[k].toNat:Int)==46||decide (48≤(s[k].toNat:Int)∧(s[k].toNat:Int)≤57)||Zbv s[k].toNat)from rfl)
    cases h43:((s[k].toNat:Int)==43)
    ·cases h45:((s[k].toNat:Int)==45)
     ·cases h46:((s[k].toNat:Int)==46)
      ·by_cases hd:48≤(s[k].toNat:Int)∧(s[k].toNat:Int)≤57
       ·have HG:=Za (HY.out (by rw[HM.out,decide_eq_true hd];simp))
        obtain⟨hd1,hd2⟩:=hd;clear HY HNO;go_wp2
        go_round
        case rel=>exact⟨k+1,by omega,by omega,by go_num,HG.out⟩
        case measure=>simp[intOf];omega
       ·cases hal:Zbv (s[k].toNat:Int)
        ·have HG:=Za (HNO.out (by rw[HM.out,h43,h45,h46,decide_eq_false hd,hal];rfl))
         have HALP:=Za hal;clear HY HNO hal
         by_cases hd1:48≤(s[k].toNat:Int)
         ·have hd2:¬(s[k].toNat:Int)≤57:=fun h=>hd ⟨hd1,h⟩
          clear hd
          go_wp2_with (go_at_call 253;refine(ZaZ _ _).mono ?_;rintro e w' ⟨rfl,rfl⟩;rw[HALP.out])
          go_ret;exact⟨Zi HG.out.symm,rfl⟩
         ·clear hd
          go_wp2_with (go_at_call 253;refine(ZaZ _ _).mono ?_;rintro e w' ⟨rfl,rfl⟩;rw[HALP.out])
          go_ret;exact⟨Zi HG.out.symm,rfl⟩
        ·have HG:=Za (HY.out (by rw[HM.out,hal];simp))
         have HALP:=Za hal;clear HY HNO hal
         by_cases hd1:48≤(s[k].toNat:Int)
         ·have hd2:¬(s[k].toNat:Int)≤57:=fun h=>hd ⟨hd1,h⟩
          clear hd
          go_wp2_with (go_at_call 253;refine(ZaZ _ _).mono ?_;rintro e w' ⟨rfl,rfl⟩;rw[HALP.out])
          go_round
          case rel=>exact⟨k+1,by omega,by omega,by go_num,HG.out⟩
          case measure=>simp[intOf];omega
         ·clear hd
          go_wp2_with (go_at_call 253;refine(ZaZ _ _).mono ?_;rintro e w' ⟨rfl,rfl⟩;rw[HALP.out])
          go_round
          case rel=>exact⟨k+1,by omega,by omega,by go_num,HG.out⟩
          case measure=>simp[intOf];omega
      ·have HG:=Za (HY.out (by rw[HM.out,h46];simp))
       clear HY HNO;go_wp2
       go_round
       case rel=>exact⟨k+1,by omega,by omega,by go_num,HG.out⟩
       case measure=>simp[intOf];omega
     ·have HG:=Za (HY.out (by rw[HM.out,h45];simp))
      clear HY HNO;go_wp2
      go_round
      case rel=>exact⟨k+1,by omega,by omega,by go_num,HG.out⟩
      case measure=>simp[intOf];omega
    ·have HG:=Za (HY.out (by rw[HM.out,h43];simp))
     clear HY HNO;go_wp2
     go_round
     case rel=>exact⟨k+1,by omega,by omega,by go_num,HG.out⟩
     case measure=>simp[intOf];omega
   ·have HF:=Za (show Zbq (tl s)=true by rw[HE.out];have h:=HAL.out;rw[Zah s k (by omega)]at h;exact h)
    go_wp2;go_ret;exact⟨Zi HF.out.symm,rfl⟩
def Zax(l:List UInt8):List UInt8×List UInt8×Bool:=
 if(bcut (isB 58) l).2.2=true∧Zbq (bcut (isB 58) l).1=true then(Zae (bcut (isB 58) l).1,(bcut (isB 58) l).2.1,true)else([],l,false)
theorem Zl3(s:BA)(w:World)(hs:s.size≤1000000):Calls Tryz.prog 187 #[.string s] w fun e w'=>ZlB (Zax (tl s)) e∧Nx w w':=by
 have HD:=Za (show Zax (tl s)=if(bcut (isB 58) (tl s)).2.2=true∧Zbq (bcut (isB 58) (tl s)).1=true then(Zae (bcut (isB 58) (tl s)).1,(bcut (isB 58) (tl s)).2.1,true)else([],tl s,false)from rfl)
 have hcl:=Z8 (isB 58) (tl s)
 go_enter Tryz.func187,Tryz.ntmps187
 go_wp2_with fail
 refine(ZcN s 58 _ (Zg hs)).mono ?_
 rintro e w1 ⟨⟨a,b,rfl,ha,hb⟩,hn1⟩
 have has:a.size≤1000000:=by have h:=hcl.1;rw[←ha,tl_length,tl_length]at h;omega
 rw[←ha,←hb]at HD;have HN1:=Za hn1;clear ha hb hn1 hcl;generalize (bcut (isB 58) (tl s)).2.2=found at *
 cases found
 ·have HE:=Za (HD.out.trans (if_neg (by rintro⟨h,-⟩;cases h)))
  clear HD;go_wp2
  go_ret3
  exact⟨⟨⟨#[]⟩,s,by rw[HE.out];rfl,by rw[HE.out];rfl,by rw[HE.out]⟩,HN1.out⟩
 ·cases hsc:Zbq (tl a)
  ·have HE:=Za (HD.out.trans (if_neg (by rintro⟨-,h⟩;rw[hsc]at h;cases h)))
   have HSC:=Za hsc;clear HD hsc
   go_wp2_with (go_at_call 221;refine(ZfQ _ _ has).mono ?_;rintro e w' ⟨rfl,rfl⟩;rw[HSC.out])
   go_ret3
   exact⟨⟨⟨#[]⟩,s,by rw[HE.out];rfl,by rw[HE.out];rfl,by rw[HE.out]⟩,HN1.out⟩
  ·have HE:=Za (HD.out.trans (if_pos ⟨rfl,hsc⟩))
   have HSC:=Za hsc;clear HD hsc
   go_wp2_with (first|(go_at_call 221;refine(ZfQ _ _ has).mono ?_;rintro e w' ⟨rfl,rfl⟩;rw[HSC.out])|(go_at_call 222;refine(ZgG _ _ has).mono ?_;rintro e w2 ⟨r,rfl,hr,hn2⟩;have HR:=Za hr;have HN2:=Za (HN1.out.then hn2);clear hr hn2))
   go_ret3
   exact⟨⟨r,b,by rw[HE.out];rfl,by rw[HE.out];exact HR.out,by rw[HE.out]⟩,HN2.out⟩
def Zbr(sch:List UInt8):Int:=if Zb sch=true then 3 else 2
theorem ZeX(s:BA)(w:World):Calls Tryz.prog 190 #[.bool (Zb (tl s))] w fun e w'=>e=.returned (.int .i64 (Zbr (tl s)))∧w=w':=by
 cases h:Zb (tl s)
 ·have HE:=Za (show Zbr (tl s)=2 from if_neg (by rw[h];decide))
  clear h
  go_enter Tryz.func190,Tryz.ntmps190
  go_wp2;go_ret;exact⟨Zai HE.out.symm,rfl⟩
 ·have HE:=Za (show Zbr (tl s)=3 from if_pos h)
  clear h
  go_enter Tryz.func190,Tryz.ntmps190
  go_wp2;go_ret;exact⟨Zai HE.out.symm,rfl⟩
def cutPortGo(inb:Bool):List UInt8→Option (List UInt8×List UInt8)
 | []=>none
 | c::r=>if(c.toNat:Int)=91 then(cutPortGo true r).map (fun q=>(c::q.1,q.2))else if(c.toNat:Int)=93 then(cutPortGo false r).map (fun q=>(c::q.1,q.2))
  else if(c.toNat:Int)=58∧inb=false then some ([],r)else(cutPortGo inb r).map (fun q=>(c::q.1,q.2))
def Zu(l:List UInt8):List UInt8×List UInt8×Bool:=match cutPortGo false l with|none=>(l,[],false)|some q=>(q.1,q.2,true)
def ZpA(l:List UInt8)(k:Nat)(inb:Bool):Prop:=cutPortGo false l=(cutPortGo inb (l.drop k)).map (fun q=>(l.take k++q.1,q.2))
theorem ZnX(l:LB):ZpA l 0 false:=by
 unfold ZpA;rw[Xy,List.take_zero]
 cases cutPortGo false l<;>rfl
theorem ZhH{s:BA}{k:Nat}{inb inb':Bool}(hk:k<s.size)(h:ZpA (tl s) k inb)(hs:cutPortGo inb (s[k]::(tl s).drop (k+1))=(cutPortGo inb' ((tl s).drop (k+1))).map (fun q=>(s[k]::q.1,q.2))):ZpA (tl s) (k+1) inb':=by
 unfold ZpA at *;rw[h,ZU s k hk,hs,ZG s k hk]
 cases cutPortGo inb' ((tl s).drop (k+1))with
 | none=>rfl
 | some q=>simp
theorem ZpZ{s:BA}{k:Nat}(hk:k<s.size)(h:ZpA (tl s) k false)(h91:¬(s[k].toNat:Int)=91)(h93:¬(s[k].toNat:Int)=93)(h58:(s[k].toNat:Int)=58):Zu (tl s)=((tl s).take k,(tl s).drop (k+1),true):=by
 unfold ZpA at h;rw[ZU s k hk,cutPortGo,if_neg h91,if_neg h93,if_pos ⟨h58,rfl⟩]at h;unfold Zu;rw[h]
 simp
theorem Zp0{s:BA}{k:Nat}{inb:Bool}(hk:s.size≤k)(h:ZpA (tl s) k inb):Zu (tl s)=(tl s,[],false):=by
 unfold ZpA at h;rw[Zy s k hk]at h;unfold Zu;rw[h]
 rfl
theorem ZjZ(s:BA)(w:World)(hs:s.size≤1000000):Calls Tryz.prog 275 #[.string s] w fun e w'=>ZlB (Zu (tl s)) e∧Nx w w':=by
 go_enter Tryz.func275,Tryz.ntmps275
 go_wp2
 go_loop [5,6] (fun b i=>∃(k:Nat) (inb:Bool),k≤s.size∧b=.bool inb∧i=.int .i64 k∧ZpA (tl s) k inb) (fun _ i=>s.size-(intOf i).toNat)
 case atStart=>exact⟨0,false,Xf _,rfl,rfl,ZnX _⟩
 case round=>
  obtain⟨k,inb,hk,rfl,rfl,ha⟩:=hrel;have HA:=Za ha;clear ha
  by_cases hlt:k<s.size
  ·have hb:=bb s[k]
   cases h91:((s[k].toNat:Int)==91)
   ·have e91:¬(s[k].toNat:Int)=91:=by simpa using h91
    cases h93:((s[k].toNat:Int)==93)
    ·have e93:¬(s[k].toNat:Int)=93:=by simpa using h93
     cases h58:((s[k].toNat:Int)==58)
     ·have e58:¬(s[k].toNat:Int)=58:=by simpa using h58
      have HG:=Za (ZhH (inb':=inb) hlt HA.out (by rw[cutPortGo,if_neg e91,if_neg e93,if_neg (fun h=>e58 h.1)]))
      clear e91 e93 e58;go_wp2
      go_round
      case rel=>exact⟨k+1,inb,by omega,rfl,by go_num,HG.out⟩
      case measure=>simp[intOf];omega
     ·cases inb
      ·have HR:=Za (ZpZ hlt HA.out e91 e93 (by simpa using h58))
       clear e91 e93;go_wp2
       go_region
       all_goals go_wp2
       all_goals go_ret3
       all_goals exact⟨⟨_,_,by rw[HR.out];rfl,by rw[HR.out,Zih],by rw[HR.out,ZaE]⟩,Nx.rfl.drew⟩
      ·have HG:=Za (ZhH (inb':=true) hlt HA.out (by rw[cutPortGo,if_neg e91,if_neg e93,if_neg (fun h=>by cases h.2)]))
       clear e91 e93;go_wp2
       go_round
       case rel=>exact⟨k+1,true,by omega,rfl,by go_num,HG.out⟩
       case measure=>simp[intOf];omega
    ·have HG:=Za (ZhH (inb':=false) hlt HA.out (by rw[cutPortGo,if_neg e91,if_pos (by simpa using h93)]))
     clear e91;go_wp2
     go_round
     case rel=>exact⟨k+1,false,by omega,rfl,by go_num,HG.out⟩
     case measure=>simp[intOf];omega
   ·have HG:=Za (ZhH (inb':=true) hlt HA.out (by rw[cutPortGo,if_pos (by simpa using h91)]))
    go_wp2
    go_round
    case rel=>exact⟨k+1,true,by omega,rfl,by go_num,HG.out⟩
    case measure=>simp[intOf];omega
  ·have HR:=Za (Zp0 (Nat.le_of_not_lt hlt) HA.out)
   go_wp2
   go_ret3
   exact⟨⟨_,_,by rw[HR.out];rfl,by rw[HR.out],by rw[HR.out];rfl⟩,Nx.rfl⟩
def Zej:List UInt8:=[108,111,99,97,108,104,111,115,116]
def ZH(l:List UInt8):List UInt8×Int:=if l=[]then([],0)else if(ZI l true).2≠0 then([],(ZI l true).2)else if(ZI l true).1=Zej then([],0)else((ZI l true).1,0)
theorem ZiD(s:BA)(w:World)(hs:s.size≤1000000)(ht:Tb w):Calls Tryz.prog 274 #[.string s] w fun e w'=>∃r:BA,e=.returned (.tuple #[.string r,.int .i64 (ZH (tl s)).2])∧tl r=(ZH (tl s)).1∧Nx w w':=by
 by_cases h0:s.size=0
 ·have HE:=Za (show ZH (tl s)=([],0)from if_pos (Zz h0))
  have h0':=Zf h0;clear h0
  go_enter Tryz.func274,Tryz.ntmps274
  go_wp2;go_ret2
  exact⟨⟨#[]⟩,by rw[HE.out];rfl,by rw[HE.out];rfl,Nx.rfl⟩
 ·have HE:=Za (show ZH (tl s)=if(ZI (tl s) true).2≠0 then([],(ZI (tl s) true).2)else if(ZI (tl s) true).1=Zej then([],0)else((ZI (tl s) true).1,0)from if_neg (ZcC h0))
  have h0':=Ze h0;clear h0
  go_enter Tryz.func274,Tryz.ntmps274
  go_wp2_with fail
  refine(Ziz s true _ hs ht).mono ?_
  rintro e w1 ⟨r,rfl,hr,hn⟩;have HN:=Za hn;rw[←hr]at HE;have HR:=Za hr;clear hn hr;generalize (ZI (tl s) true).2=err at *
  by_cases he:err=0
  ·subst he
   have HE2:=Za (HE.out.trans (if_neg (by decide)))
   clear HE
   by_cases hl:tl r=Zej
   ·have HE3:=Za (HE2.out.trans (if_pos hl))
    have hl':=eqB hl;unfold Zej at hl';clear HE2 hl;go_wp2;go_ret2
    exact⟨⟨#[]⟩,by rw[HE3.out];rfl,by rw[HE3.out];rfl,HN.out⟩
   ·have HE3:=Za (HE2.out.trans (if_neg hl))
    have hl':=neB hl;unfold Zej at hl';clear HE2 hl;go_wp2;go_ret2
    exact⟨r,by rw[HE3.out];rfl,by rw[HE3.out],HN.out⟩
  ·have HE2:=Za (HE.out.trans (if_pos he))
   have he':(err != 0)=true:=Zd9 (beq_eq_false_iff_ne.2 he);clear HE he;go_wp2;go_ret2
   exact⟨⟨#[]⟩,by rw[HE2.out];rfl,by rw[HE2.out];rfl,HN.out⟩
def rz:Rc:=⟨⟨#[]⟩,⟨#[]⟩,⟨#[]⟩,false,⟨#[]⟩,false,0,false,⟨#[]⟩,none,0,0,false,⟨#[]⟩,false,⟨#[]⟩⟩
def zeroU:U:=⟨[],[],[],false,[],false,0,false,[],[],false,[],false,[]⟩
theorem Zc6(w:World):RcIs w rz zeroU []:=⟨rfl,SlAt.nil w,by decide,by decide,by decide,by decide,by decide,by decide,by decide,(fun b hb=>by cases hb),by decide,by decide⟩
theorem Zd5(w:World):RecB (w.alloc (Obj.cells #[.string ⟨#[]⟩,.string ⟨#[]⟩,.string ⟨#[]⟩,.bool false,.string ⟨#[]⟩,.bool false,.int .i64 0,.bool false,.string ⟨#[]⟩,.slice none 0 0,.bool false,.string ⟨#[]⟩,.bool false,.string ⟨#[]⟩] 101)) w.heap.size rz:=heap_alloc_new w _
def C14(w:World)(b:Nat)(v0 v1 v2 v3 v4 v5 v6 v7 v8 v9 v10 v11 v12 v13:Value):Prop:=w.heap[b]?=some (Obj.cells #[v0,v1,v2,v3,v4,v5,v6,v7,v8,v9,v10,v11,v12,v13] 101 (0,0))
theorem C14.on{w w':World}{b:Nat}{v0 v1 v2 v3 v4 v5 v6 v7 v8 v9 v10 v11 v12 v13:Value}(h:C14 w b v0 v1 v2 v3 v4 v5 v6 v7 v8 v9 v10 v11 v12 v13)(hb:Nx w w'):C14 w' b v0 v1 v2 v3 v4 v5 v6 v7 v8 v9 v10 v11 v12 v13:=(hb.block b (Xh.1 h).1).trans h
theorem RecB.put{w:World}{b:Nat}{r:Rc}(h:RecB w b r)(v0 v1 v2 v3 v4 v5 v6 v7 v8 v9 v10 v11 v12 v13:Value):C14 ((((((((((((((w.setCell ⟨b,0,none⟩ v0).setCell ⟨b,1,none⟩ v1).setCell ⟨b,2,none⟩ v2).setCell ⟨b,3,none⟩ v3).setCell ⟨b,4,none⟩ v4).setCell ⟨b,5,none⟩ v5).setCell ⟨b,6,none⟩ v6).setCell ⟨b,7,none⟩ v7).setCell ⟨b,8,none⟩ v8).setCell ⟨b,9,none⟩ v9).setCell ⟨b,10,none⟩ v10).setCell ⟨b,11,none⟩ v11).setCell ⟨b,12,none⟩ v12).setCell ⟨b,13,none⟩ v13) b v0 v1 v2 v3 v4 v5 v6 v7 v8 v9 v10 v11 v12 v13:=by
 unfold RecB at h;unfold C14
 simp[World.setCell,Xc,h]
theorem C14.cells{w:World}{b:Nat}{v0 v1 v2 v3 v4 v5 v6 v7 v8 v9 v10 v11 v12 v13:Value}(h:C14 w b v0 v1 v2 v3 v4 v5 v6 v7 v8 v9 v10 v11 v12 v13):w.cell? ⟨b,0,none⟩=some v0∧w.cell? ⟨b,1,none⟩=some v1∧w.cell? ⟨b,2,none⟩=some v2∧w.cell? ⟨b,3,none⟩=some v3∧w.cell? ⟨b,4,none⟩=some v4∧w.cell? ⟨b,5,none⟩=some v5∧w.cell? ⟨b,6,none⟩=some v6∧w.cell? ⟨b,7,none⟩=some v7∧w.cell? ⟨b,8,none⟩=some v8∧w.cell? ⟨b,9,none⟩=some v9∧w.cell? ⟨b,10,none⟩=some v10∧w.cell? ⟨b,11,none⟩=some v11∧w.cell? ⟨b,12,none⟩=some v12∧w.cell? ⟨b,13,none⟩=some v13:=by
 unfold C14 at h
 refine⟨?_,?_,?_,?_,?_,?_,?_,?_,?_,?_,?_,?_,?_,?_⟩<;>simp[World.cell?,h]
theorem RecB.far{w:World}{b q:Nat}{r:Rc}(h:RecB w b r)(hq:q≠b)(i:Nat)(u:Value):RecB (w.setCell ⟨q,i,none⟩ u) b r:=by unfold RecB at *;simp only[World.setCell,Xc,if_neg hq];exact h
theorem Zd{B:Nat}{a w:World}{b:Nat}(h:Below B a w)(hb:B≤b)(v0 v1 v2 v3 v4 v5 v6 v7 v8 v9 v10 v11 v12 v13:Value):Below B a ((((((((((((((w.setCell ⟨b,0,none⟩ v0).setCell ⟨b,1,none⟩ v1).setCell ⟨b,2,none⟩ v2).setCell ⟨b,3,none⟩ v3).setCell ⟨b,4,none⟩ v4).setCell ⟨b,5,none⟩ v5).setCell ⟨b,6,none⟩ v6).setCell ⟨b,7,none⟩ v7).setCell ⟨b,8,none⟩ v8).setCell ⟨b,9,none⟩ v9).setCell ⟨b,10,none⟩ v10).setCell ⟨b,11,none⟩ v11).setCell ⟨b,12,none⟩ v12).setCell ⟨b,13,none⟩ v13):=
 ((((((((((((((h.setCell hb _).setCell hb _).setCell hb _).setCell hb _).setCell hb _).setCell hb _).setCell hb _).setCell hb _).setCell hb _).setCell hb _).setCell hb _).setCell hb _).setCell hb _).setCell hb _)
def Ks(w w':World):Prop:=∀(k:Nat) (cs:Array Value) (fz:Nat×Nat),w.heap[k]?=some (Obj.cells cs 9 fz)→w'.heap[k]?=some (Obj.cells cs 9 fz)
theorem Ks.rfl{w:World}:Ks w w:=fun _ _ _ h=>h
theorem Ks.then{a b c:World}(h:Ks a b)(k:Ks b c):Ks a c:=fun i cs fz hi=>k i cs fz (h i cs fz hi)
theorem Nx.ks{w w':World}(h:Nx w w'):Ks w w':=fun k _ _ hk=>(h.block k (Xh.1 hk).1).trans hk
theorem ZW{w:World}{pb:Nat}{t:TypeId}(h:TyB w pb t)(ht:t≠9)(i:Nat)(u:Value):Ks w (w.setCell ⟨pb,i,none⟩ u):=by
 intro k cs fz hk;obtain⟨cs',fz',h⟩:=h
 have hne:pb≠k:=by intro e;subst e;rw[h]at hk;simp only[Option.some.injEq,Obj.cells.injEq]at hk;exact ht hk.2.1
 simp only[World.setCell,Xc,if_neg hne];exact hk
theorem RecB.ty{w:World}{b:Nat}{r:Rc}(h:RecB w b r):TyB w b 101:=⟨_,_,h⟩
theorem Zq{w:World}{b:Nat}{t:TypeId}(h:TyB w b t)(ht:t≠9)(v0 v1 v2 v3 v4 v5 v6 v7 v8 v9 v10 v11 v12 v13:Value):Ks w ((((((((((((((w.setCell ⟨b,0,none⟩ v0).setCell ⟨b,1,none⟩ v1).setCell ⟨b,2,none⟩ v2).setCell ⟨b,3,none⟩ v3).setCell ⟨b,4,none⟩ v4).setCell ⟨b,5,none⟩ v5).setCell ⟨b,6,none⟩ v6).setCell ⟨b,7,none⟩ v7).setCell ⟨b,8,none⟩ v8).setCell ⟨b,9,none⟩ v9).setCell ⟨b,10,none⟩ v10).setCell ⟨b,11,none⟩ v11).setCell ⟨b,12,none⟩ v12).setCell ⟨b,13,none⟩ v13):=by have h1:=h.set b 0 v0;have h2:=h1.set b 1 v1;have h3:=h2.set b 2 v2;have h4:=h3.set b 3 v3;have h5:=h4.set b 4 v4;have h6:=h5.set b 5 v5;have h7:=h6.set b 6 v6;have h8:=h7.set b 7 v7;have h9:=h8.set b 8 v8;have h10:=h9.set b 9 v9;have h11:=h10.set b 10 v10;have h12:=h11.set b 11 v11;have h13:=h12.set b 12 v12;exact((((((((((((((ZW h ht 0 v0).then (ZW h1 ht 1 v1)).then (ZW h2 ht 2 v2)).then (ZW h3 ht 3 v3)).then (ZW h4 ht 4 v4)).then (ZW h5 ht 5 v5)).then (ZW h6 ht 6 v6)).then (ZW h7 ht 7 v7)).then (ZW h8 ht 8 v8)).then (ZW h9 ht 9 v9)).then (ZW h10 ht 10 v10)).then (ZW h11 ht 11 v11)).then (ZW h12 ht 12 v12)).then (ZW h13 ht 13 v13))
theorem SlAt.ks{w w':World}{v:Value}{l:LA}(h:ZbU w v l)(hk:Ks w w'):ZbU w' v l:=by
 obtain⟨ao,cap,rfl,hlc,hcap,hnone,hsome⟩:=h
 refine⟨ao,cap,rfl,hlc,hcap,hnone,fun a ha=>?_⟩
 obtain⟨b,off,rfl,cs,fz,hh,hc⟩:=hsome a ha;exact⟨b,off,rfl,cs,fz,hk b cs fz hh,hc⟩
theorem RcIs.ks{w w':World}{r:Rc}{u:U}{bs:LA}(h:RcIs w r u bs)(hk:Ks w w'):RcIs w' r u bs:={ h with seg:=h.seg.ks hk }
theorem Z9{fn:Func}{R:Ending→World→Prop}{a:Act}{W:World}{c t:Tmp}{rb:Nat}{v0 v1 v2 v3 v4 v5 v6 v7 v8 v9 v10 v11 v12 v13:Value}{err:Int}(hres:fn.results=#[.cell c 101,.tmp t])(hc:a.tmps[c]?.getD undef=.pointer (some ⟨rb,0,none⟩))(ht:a.tmps[t]?.getD undef=.int .i64 err)
  (hC:C14 W rb v0 v1 v2 v3 v4 v5 v6 v7 v8 v9 v10 v11 v12 v13) (hd:a.defers=[]) (hR:R (.returned (.tuple #[.agg #[v0,v1,v2,v3,v4,v5,v6,v7,v8,v9,v10,v11,v12,v13],.int .i64 err])) W):bodyPost Tryz.prog fn R .ret a W:=by
 obtain⟨y0,y1,y2,y3,y4,y5,y6,y7,y8,y9,y10,y11,y12,y13⟩:=hC.cells
 exact bodyPost_ret (v:=.tuple #[.agg #[v0,v1,v2,v3,v4,v5,v6,v7,v8,v9,v10,v11,v12,v13],.int .i64 err]) (by simp[results,hres,hc,ht,go_sem,y0,y1,y2,y3,y4,y5,y6,y7,y8,y9,y10,y11,y12,y13]) hd hR
theorem Zc4{fn:Func}{R:Ending→World→Prop}{a:Act}{W:World}{c:Tmp}{rb:Nat}{v0 v1 v2 v3 v4 v5 v6 v7 v8 v9 v10 v11 v12 v13:Value}(hres:fn.results=#[.cell c 101])(hc:a.tmps[c]?.getD undef=.pointer (some ⟨rb,0,none⟩))
  (hC:C14 W rb v0 v1 v2 v3 v4 v5 v6 v7 v8 v9 v10 v11 v12 v13) (hd:a.defers=[]) (hR:R (.returned (.agg #[v0,v1,v2,v3,v4,v5,v6,v7,v8,v9,v10,v11,v12,v13])) W):bodyPost Tryz.prog fn R .ret a W:=by
 obtain⟨y0,y1,y2,y3,y4,y5,y6,y7,y8,y9,y10,y11,y12,y13⟩:=hC.cells
 exact bodyPost_ret (v:=.agg #[v0,v1,v2,v3,v4,v5,v6,v7,v8,v9,v10,v11,v12,v13]) (by simp[results,hres,hc,go_sem,y0,y1,y2,y3,y4,y5,y6,y7,y8,y9,y10,y11,y12,y13]) hd hR
def Zfc(e:Ending)(w':World)(x:U×Int)(n:Nat):Prop:=∃(r:Rc) (bs:List ByteArray),e=.returned (.tuple #[.agg #[.string r.sch,.string r.nam,.string r.pw,.bool r.hh,.string r.host,.bool r.hp,.int .i64 (r.port:Int),.bool r.op,.string r.opath,.slice r.so r.sn r.sc,.bool r.hq,.string r.q,.bool r.hf,.string r.fr],.int .i64 x.2])∧RcIs w' r x.1 bs∧bs.length≤n
def Zc7(ps:List (List UInt8)):Prop:=∀p∈ps,p.length≤300000
theorem Zbc(set l:LB)(h:l.length≤30000):(encB set (clean l)).length≤300000:=by
 have h1:=Zhs set (clean l);have h2:=Za9 l
 omega
theorem ZeY{f:Bool}{ps:List LB}(h:Zc7 ps):Zc7 (ZaC f ps):=by
 unfold ZaC
 split
 ·exact h
 ·exact fun p hp=>h p (Xl hp)
theorem Zj0{f:Bool}{ps:List LB}{seg:LB}(h:Zc7 ps)(hs:seg.length≤30000):Zc7 (joinL f ps seg):=by
 intro p hp;unfold joinL at hp;rcases Xv.1 hp with hp|hp
 ·exact h p hp
 ·rw[Xq]at hp
  subst hp
  split
  ·rw[Xp,Xb];simp;omega
  ·exact Zbc _ _ hs
theorem ZfR{f:Bool}{ps:List LB}{seg:LB}{last:Bool}(h:Zc7 ps)(hs:seg.length≤30000):Zc7 (ZcF f ps seg last):=by
 have h2:Zc7 (if countDots seg=2 then ZaC f ps else ps):=by split;exact ZeY h;exact h
 unfold ZcF
 split
 ·exact Zj0 h hs
 ·split
  ·intro p hp
   rcases Xv.1 hp with hp|hp
   ·exact h2 p hp
   ·rw[Xq]at hp;subst hp;simp
  ·exact h2
theorem ZiE(f:Bool)(ss:List LB):∀ps,Zc7 ps→(∀s∈ss,s.length≤30000)→Zc7 (Zbu f ps ss):=by
 induction ss with
 | nil=>intro ps h _;exact h
 | cons x r ih=>
  intro ps h hs;have hx:=hs x (Xr ..)
  cases r with
  | nil=>exact ZfR h hx
  | cons y q=>exact ih _ (ZfR h hx) (fun s hh=>hs s (Xm _ hh))
theorem ZiF(p:UInt8→Bool)(l:LB):∀s∈Zbl p l,s.length≤l.length:=by
 induction l with
 | nil=>intro s hs;rw[Zbl]at hs;simp at hs;subst hs;simp
 | cons c r ih=>
  intro s hs;rw[Zbl]at hs
  split at hs
  ·rcases Xz.1 hs with rfl|hs
   ·simp
   ·have:=ih s hs;simp;omega
  ·obtain⟨x,q,hx⟩:=Zdd p r
   rw[hx]at hs ih;simp only at hs;rcases Xz.1 hs with rfl|hs
   ·have:=ih x (Xr ..);simp;omega
   ·have:=ih s (Xm _ hs);simp;omega
theorem ZcQ{f sp:Bool}{ps:List LB}{t:LB}(h:Zc7 ps)(ht:t.length≤30000):Zc7 (ZaR f sp ps t):=
 ZiE f _ ps h (fun s hs=>Nat.le_trans (ZiF _ _ s hs) ht)
theorem Zaq{t sch:LB}(ht:t.length≤30000):Zc7 (Zbg t sch):=ZcQ (fun p hp=>by cases hp) ht
theorem ZhI{base:List LB}{t sch:LB}(h:Zc7 base)(ht:t.length≤30000):Zc7 (Zcu base t sch):=ZcQ (ZeY h) ht
theorem Zgu{base:List LB}{t:LB}(h:Zc7 base)(ht:t.length≤30000):Zc7 (ZaK base t):=by
 unfold ZaK
 split
 ·exact Zaq ht
 ·exact ZcQ (fun p hp=>h p (Xl hp)) ht
theorem ZaO{bs:LA}{ps:List LB}(h:bs.map tl=ps)(hs:Zc7 ps):∀b∈bs,b.size≤300000:=fun b hb=>by
 have:=hs (tl b) (by rw[←h];exact XA.2 ⟨b,hb,rfl⟩)
 rwa [tl_length]at this
theorem RcIs.short{w:World}{r:Rc}{u:U}{bs:LA}(h:RcIs w r u bs):Zc7 u.segs:=by
 intro p hp
 have e:u.segs=bs.map tl:=by rw[←h.eq];rfl
 rw[e]at hp;obtain⟨b,hb,rfl⟩:=XA.1 hp;rw[tl_length];exact h.lseg b hb
theorem RcIs.segs{w:World}{r:Rc}{u:U}{bs:LA}(h:RcIs w r u bs):bs.map tl=u.segs:=by rw[←h.eq];rfl
theorem RcIs.usch{w:World}{r:Rc}{u:U}{bs:LA}(h:RcIs w r u bs):tl r.sch=u.sch:=by rw[←h.eq];rfl
end Go.Proofs.YtchkhibgbnhjpabGreatDoor
