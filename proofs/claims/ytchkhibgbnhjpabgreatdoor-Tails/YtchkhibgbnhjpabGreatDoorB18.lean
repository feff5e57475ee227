import Derived.Test.YtchkhibgbnhjpabGreatDoorB17
namespace Go.Proofs.YtchkhibgbnhjpabGreatDoor
open Go.RowKit
set_option maxHeartbeats 16000000
def wholeText(l:List UInt8):List UInt8:=noBreaks (trimB (clean l))
def ZgG(r:U×Int)(hf:Bool)(f:List UInt8):U×Int:=if r.2≠0 then(zeroU,r.2)else({ r.1 with hf:=hf,fr:=encB (tl (ZaJ 1)) (clean f) },0)
def Zae(l:List UInt8)(base:U):U×Int:=
 ZgG (ZbK (bcut (isB 35) (wholeText l)).1 (bcut (isB 35) (wholeText l)).2.2 base) (bcut (isB 35) (wholeText l)).2.2 (bcut (isB 35) (wholeText l)).2.1
theorem ZeU(s:BA)(rb:Rc)(base:U)(cs:LA)(w:World)(h2:RcIs w rb base cs)(hcs:cs.length≤60000)(hl:s.size≤9000)(ht:Tb w):Calls Tryz.prog 79 #[.string s,.agg #[.string rb.sch,.string rb.nam,.string rb.pw,.bool rb.hh,.string rb.host,.bool rb.hp,.int .i64 (rb.port:Int),.bool rb.op,.string rb.opath,.slice rb.so rb.sn rb.sc,.bool rb.hq,.string rb.q,.bool rb.hf,.string rb.fr]] w fun e w'=>Zfy e w' (Zae (tl s) base) (cs.length+30002)∧Nx w w':=by
 have HBS:=Za h2;have HTB:=Za ht;clear h2 ht
 go_enter Tryz.func79,Tryz.ntmps79
 go_wp2_with fail
 refine(ZeJ s _ (by omega)).mono ?_
 rintro e w1 ⟨cl,rfl,hcl,hn1⟩
 have hcll:cl.size≤27000:=by have:=Zb4 (tl s);rw[←hcl,tl_length,tl_length]at this;omega
 obtain⟨g1,g2,g3⟩:=ZaA hn1;have HBB:=Za g1;have HZ:=Za g2;have HN:=Za g3;have HCL:=Za hcl;clear hcl hn1 g1 g2 g3
 go_wp2_with (first|(go_at_call 139;refine(Zt8 _ _ (by omega)).mono ?_;rintro e w' ⟨tr,rfl,htr,htl,rfl⟩;have HTR:=Za htr;clear htr)|fail)
 refine(ZcD tr _ (by omega)).mono ?_
 rintro e w2 ⟨nb,rfl,hnb,hn2⟩
 have hnbl:nb.size≤27000:=by have:=ZaP (tl tr);rw[←hnb,tl_length,tl_length]at this;omega
 have HWT:=Za (show wholeText (tl s)=tl nb by unfold wholeText;rw[←HCL.out,←HTR.out,←hnb])
 have HBB2:=Za (HBB.out.on hn2);have HZ2:=Za (HZ.out.on hn2);have HN2:=Za (HN.out.then hn2);clear hnb hn2 HBB HZ HN;have hc:=Zaz (isB 35) (tl nb);go_wp2_with fail
 refine(Zfb nb 35 _ (Zf (by omega))).mono ?_
 rintro e w3 ⟨⟨ah,fg,rfl,hah,hfg⟩,hn3⟩;rw[←hah,←hfg,tl_length,tl_length,tl_length]at hc
 have HD:=Za (show Zae (tl s) base=ZgG (ZbK (tl ah) (bcut (isB 35) (tl nb)).2.2 base) (bcut (isB 35) (tl nb)).2.2 (tl fg)by unfold Zae;rw[HWT.out,hah,hfg])
 have HBB3:=Za (HBB2.out.on hn3);have HZ3:=Za (HZ2.out.on hn3);have HN3:=Za (HN2.out.then hn3)
 have hahl:ah.size≤30000:=by omega
 have hfgl:fg.size≤30000:=by omega
 clear hah hfg hn3 hc HBB2 HZ2 HN2;generalize (bcut (isB 35) (tl nb)).2.2=hf at *;obtain⟨b0,b1,b2,b3,b4,b5,b6,b7,b8,b9,b10,b11,b12,b13⟩:=HBB3.out.cells;go_wp2_with fail
 refine(ZpR ah hf rb base cs _ (HBS.out.on HN3.out) hcs hahl (HTB.out.on HN3.out)).mono ?_
 rintro e w4 ⟨⟨r,ds,rfl,hr,hdl⟩,hn4⟩;have HR:=Za hr;have HZ4:=Za (HZ3.out.on hn4);have HN4:=Za (HN3.out.then hn4);clear hr hn4 HZ3 HN3;clear b0 b1 b2 b3 b4 b5 b6 b7 b8 b9 b10 b11 b12 b13;obtain⟨z0,z1,z2,z3,z4,z5,z6,z7,z8,z9,z10,z11,z12,z13⟩:=HZ4.out.cells;have zf0:=HZ4.out.free 0;have zf1:=HZ4.out.free 1;have zf2:=HZ4.out.free 2;have zf3:=HZ4.out.free 3;have zf4:=HZ4.out.free 4;have zf5:=HZ4.out.free 5;have zf6:=HZ4.out.free 6;have zf7:=HZ4.out.free 7;have zf8:=HZ4.out.free 8;have zf9:=HZ4.out.free 9;have zf10:=HZ4.out.free 10;have zf11:=HZ4.out.free 11;have zf12:=HZ4.out.free 12;have zf13:=HZ4.out.free 13;have hlz:w.heap.size+1<w4.heap.size:=(Array.getElem?_eq_some_iff.1 HZ4.out).1;generalize ZbK (tl ah) hf base=q at *;obtain⟨qu,err⟩:=q;simp only at HR
 have HED:=Za (show ZgG (qu,err) hf (tl fg)=if err≠0 then(zeroU,err)else({ qu with hf:=hf,fr:=encB (tl (ZaJ 1)) (clean (tl fg)) },0)from rfl)
 by_cases he:err=0
 ·subst he
  have HE:=Za (HD.out.trans (HED.out.trans (if_neg (by decide))))
  clear HD HED;go_wp2_with fail
  refine(ZaM fg 1 _ (by omega)).mono ?_
  rintro e w5 ⟨en,rfl,hen,hn5⟩
  have hel:en.size≤300000:=by rw[←tl_length,hen];exact Zbd _ _ (by rw[tl_length];exact hfgl)
  have HEN:=Za hen
  have HP5:=Za (((Za5 w4 { r with hf:=hf })).on hn5)
  have HZ5:=Za ((HZ4.out.on (Nx.rfl.alloc _)).on hn5);have HN5:=Za ((HN4.out.alloc _).then hn5);have HR5:=Za ((HR.out.on (Nx.rfl.alloc _)).on hn5);clear hen hn5;clear z0 z1 z2 z3 z4 z5 z6 z7 z8 z9 z10 z11 z12 z13 zf0 zf1 zf2 zf3 zf4 zf5 zf6 zf7 zf8 zf9 zf10 zf11 zf12 zf13;obtain⟨a0,a1,a2,a3,a4,a5,a6,a7,a8,a9,a10,a11,a12,a13⟩:=HP5.out.cells;have af13:=HP5.out.free 13;obtain⟨z0,z1,z2,z3,z4,z5,z6,z7,z8,z9,z10,z11,z12,z13⟩:=HZ5.out.cells;have zf0:=HZ5.out.free 0;have zf1:=HZ5.out.free 1;have zf2:=HZ5.out.free 2;have zf3:=HZ5.out.free 3;have zf4:=HZ5.out.free 4;have zf5:=HZ5.out.free 5;have zf6:=HZ5.out.free 6;have zf7:=HZ5.out.free 7;have zf8:=HZ5.out.free 8;have zf9:=HZ5.out.free 9;have zf10:=HZ5.out.free 10;have zf11:=HZ5.out.free 11;have zf12:=HZ5.out.free 12;have zf13:=HZ5.out.free 13;go_wp2
  refine Zac (rb:=w.heap.size+1) Tryz.results79 rfl rfl (RecB.put (HZ5.out.far (by omega) 13 _) _ _ _ _ _ _ _ _ _ _ _ _ _ _) rfl ⟨⟨{ r with hf:=hf,fr:=en },ds,(by rw[HE.out];first|done|rfl),?_,by omega⟩,(Zd (Below.setCell HN5.out (by show w.heap.size≤w4.heap.size;omega) _) (by omega) _ _ _ _ _ _ _ _ _ _ _ _ _ _)⟩
  exact { eq:=by rw[HE.out,←HR.out.eq];simp only[Rc.u];rw[HEN.out]
          seg:=HR5.out.seg.ks (Ks.then (Ks.then Ks.rfl (ZW HP5.out.ty (by decide) 13 _)) (Zm (HZ5.out.ty.set w4.heap.size 13 _) (by decide) _ _ _ _ _ _ _ _ _ _ _ _ _ _))
          lsch:=HR.out.lsch
          lnam:=HR.out.lnam
          lpw:=HR.out.lpw
          lhost:=HR.out.lhost
          lport:=HR.out.lport
          lopath:=HR.out.lopath
          lsegs:=HR.out.lsegs
          lseg:=HR.out.lseg
          lq:=HR.out.lq
          lfr:=hel }
 ·have HE:=Za (HD.out.trans (HED.out.trans (if_pos he)))
  have he':(err != 0)=true:=ZhB (beq_eq_false_iff_ne.2 he);clear HD HED he;go_wp2
  exact Zac (rb:=w.heap.size+1) Tryz.results79 rfl rfl ((RecB.put HZ4.out _ _ _ _ _ _ _ _ _ _ _ _ _ _).on (Nx.rfl.alloc _)) rfl ⟨⟨rz,[],(by rw[HE.out];first|done|rfl),(by rw[HE.out];exact ZeC _),by simp⟩,Nx.alloc (Zd HN4.out (by omega) _ _ _ _ _ _ _ _ _ _ _ _ _ _) _⟩
def ZbL(l:List UInt8):U×Int:=Zae l zeroU
theorem Zlu(s:BA)(w:World)(hl:s.size≤9000)(ht:Tb w):Calls Tryz.prog 137 #[.string s] w fun e w'=>Zfy e w' (ZbL (tl s)) 30002∧Nx w w':=by
 have HTB:=Za ht;clear ht
 go_enter Tryz.func137,Tryz.ntmps137
 go_wp2_with fail
 refine(ZeU s rz zeroU [] _ (ZeC _) (by simp) hl (HTB.out.on (Nx.rfl.alloc _))).mono ?_
 rintro e w1 ⟨⟨r,ds,rfl,hr,hdl⟩,hn⟩;have HR:=Za hr;have HZ:=Za ((ZfT w).on hn);have HN:=Za (show Nx w w1 from(Nx.rfl.alloc _).then hn);clear hr hn;obtain⟨z0,z1,z2,z3,z4,z5,z6,z7,z8,z9,z10,z11,z12,z13⟩:=HZ.out.cells;have zf0:=HZ.out.free 0;have zf1:=HZ.out.free 1;have zf2:=HZ.out.free 2;have zf3:=HZ.out.free 3;have zf4:=HZ.out.free 4;have zf5:=HZ.out.free 5;have zf6:=HZ.out.free 6;have zf7:=HZ.out.free 7;have zf8:=HZ.out.free 8;have zf9:=HZ.out.free 9;have zf10:=HZ.out.free 10;have zf11:=HZ.out.free 11;have zf12:=HZ.out.free 12;have zf13:=HZ.out.free 13;go_wp2
 exact Zac (rb:=w.heap.size) Tryz.results137 rfl rfl (RecB.put HZ.out _ _ _ _ _ _ _ _ _ _ _ _ _ _) rfl ⟨⟨r,ds,rfl,HR.out.ks (Ks.then Ks.rfl (Zm HZ.out.ty (by decide) _ _ _ _ _ _ _ _ _ _ _ _ _ _)),by simpa using hdl⟩,(Zd HN.out (Nat.le_refl _) _ _ _ _ _ _ _ _ _ _ _ _ _ _)⟩
end Go.Proofs.YtchkhibgbnhjpabGreatDoor
