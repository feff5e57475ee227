import Derived.Test.YtchkhibgbnhjpabGreatDoorV36
open Array renaming getElem?_eq_some_iff→Xb
open Nat renaming le_refl→Xa
namespace Go.Proofs.YtchkhibgbnhjpabGreatDoor
open Go.RowKit
set_option maxHeartbeats 16000000
set_option maxRecDepth 8000
theorem ZlA{w w1:World}{a0 a1 a2 a3 a4 a5 a6 a7 a8 a9 a10 b0 b1 b2 b3 b4 b5 b6 b7 b8 b9 b10:BA}(hn:Nx (((w.alloc (Obj.cells #[.string a0,.string a1,.string a2,.string a3,.string a4,.string a5,.string a6,.string a7,.string a8,.string a9,.string a10] 66)).alloc (Obj.cells #[.string b0,.string b1,.string b2,.string b3,.string b4,.string b5,.string b6,.string b7,.string b8,.string b9,.string b10] 66)).alloc (Obj.cells #[.string ⟨#[]⟩,.string ⟨#[]⟩,.string ⟨#[]⟩,.string ⟨#[]⟩,.string ⟨#[]⟩,.string ⟨#[]⟩,.string ⟨#[]⟩,.string ⟨#[]⟩,.string ⟨#[]⟩,.string ⟨#[]⟩,.string ⟨#[]⟩] 66)) w1):C11 w1 w.heap.size (.string a0) (.string a1) (.string a2) (.string a3) (.string a4) (.string a5) (.string a6) (.string a7) (.string a8) (.string a9) (.string a10)∧C11 w1 (w.heap.size+1) (.string b0) (.string b1) (.string b2) (.string b3) (.string b4) (.string b5) (.string b6) (.string b7) (.string b8) (.string b9) (.string b10)∧C11 w1 (w.heap.size+1+1) (.string ⟨#[]⟩) (.string ⟨#[]⟩) (.string ⟨#[]⟩) (.string ⟨#[]⟩) (.string ⟨#[]⟩) (.string ⟨#[]⟩) (.string ⟨#[]⟩) (.string ⟨#[]⟩) (.string ⟨#[]⟩) (.string ⟨#[]⟩) (.string ⟨#[]⟩)∧Nx w w1:=by
 refine⟨((show C11 (w.alloc (Obj.cells #[.string a0,.string a1,.string a2,.string a3,.string a4,.string a5,.string a6,.string a7,.string a8,.string a9,.string a10] 66)) w.heap.size (.string a0) (.string a1) (.string a2) (.string a3) (.string a4) (.string a5) (.string a6) (.string a7) (.string a8) (.string a9) (.string a10)from heap_alloc_new w _).on ((Nx.rfl.alloc _).alloc _)).on hn,?_,?_,(((Nx.rfl.alloc _).alloc _).alloc _).then hn⟩
 ·have h:C11 ((w.alloc (Obj.cells #[.string a0,.string a1,.string a2,.string a3,.string a4,.string a5,.string a6,.string a7,.string a8,.string a9,.string a10] 66)).alloc (Obj.cells #[.string b0,.string b1,.string b2,.string b3,.string b4,.string b5,.string b6,.string b7,.string b8,.string b9,.string b10] 66)) (w.alloc (Obj.cells #[.string a0,.string a1,.string a2,.string a3,.string a4,.string a5,.string a6,.string a7,.string a8,.string a9,.string a10] 66)).heap.size (.string b0) (.string b1) (.string b2) (.string b3) (.string b4) (.string b5) (.string b6) (.string b7) (.string b8) (.string b9) (.string b10):=heap_alloc_new _ _
  rw[show(w.alloc (Obj.cells #[.string a0,.string a1,.string a2,.string a3,.string a4,.string a5,.string a6,.string a7,.string a8,.string a9,.string a10] 66)).heap.size=w.heap.size+1 by simp]at h
  exact(h.on (Nx.rfl.alloc _)).on hn
 ·have h:C11 (((w.alloc (Obj.cells #[.string a0,.string a1,.string a2,.string a3,.string a4,.string a5,.string a6,.string a7,.string a8,.string a9,.string a10] 66)).alloc (Obj.cells #[.string b0,.string b1,.string b2,.string b3,.string b4,.string b5,.string b6,.string b7,.string b8,.string b9,.string b10] 66)).alloc (Obj.cells #[.string ⟨#[]⟩,.string ⟨#[]⟩,.string ⟨#[]⟩,.string ⟨#[]⟩,.string ⟨#[]⟩,.string ⟨#[]⟩,.string ⟨#[]⟩,.string ⟨#[]⟩,.string ⟨#[]⟩,.string ⟨#[]⟩,.string ⟨#[]⟩] 66)) ((w.alloc (Obj.cells #[.string a0,.string a1,.string a2,.string a3,.string a4,.string a5,.string a6,.string a7,.string a8,.string a9,.string a10] 66)).alloc (Obj.cells #[.string b0,.string b1,.string b2,.string b3,.string b4,.string b5,.string b6,.string b7,.string b8,.string b9,.string b10] 66)).heap.size (.string ⟨#[]⟩) (.string ⟨#[]⟩) (.string ⟨#[]⟩) (.string ⟨#[]⟩) (.string ⟨#[]⟩) (.string ⟨#[]⟩) (.string ⟨#[]⟩) (.string ⟨#[]⟩) (.string ⟨#[]⟩) (.string ⟨#[]⟩) (.string ⟨#[]⟩):=heap_alloc_new _ _
  rw[show((w.alloc (Obj.cells #[.string a0,.string a1,.string a2,.string a3,.string a4,.string a5,.string a6,.string a7,.string a8,.string a9,.string a10] 66)).alloc (Obj.cells #[.string b0,.string b1,.string b2,.string b3,.string b4,.string b5,.string b6,.string b7,.string b8,.string b9,.string b10] 66)).heap.size=w.heap.size+1+1 by simp]at h
  exact h.on hn
theorem Zri(a0 a1 a2 a3 a4 a5 a6 a7 a8 a9 a10 b0 b8 b9:BA)(w:World)(h8:a8.size≤200000000000)(ho:a8.size=0∨∃h:0<a8.size,a8[0]≠47):Calls Tryz.prog 34 #[.agg #[.string a0,.string a1,.string a2,.string a3,.string a4,.string a5,.string a6,.string a7,.string a8,.string a9,.string a10],.agg #[.string b0,.string a1,.string a2,.string a3,.string a4,.string a5,.string a6,.string a7,.string b8,.string b9,.string a10],.int .i64 8] w fun e w'=>e=.returned (.agg #[.string b0,.string a1,.string a2,.string a3,.string a4,.string a5,.string a6,.string a7,.string b8,.string b9,.string a10])∧Nx w w':=by
 go_enter Tryz.func34,Tryz.ntmps34
 go_upto_region 1 with fail;obtain⟨g1,g2,g3,g4⟩:=ZlA (w:=w) (a0:=a0) (a1:=a1) (a2:=a2) (a3:=a3) (a4:=a4) (a5:=a5) (a6:=a6) (a7:=a7) (a8:=a8) (a9:=a9) (a10:=a10) (b0:=b0) (b1:=a1) (b2:=a2) (b3:=a3) (b4:=a4) (b5:=a5) (b6:=a6) (b7:=a7) (b8:=b8) (b9:=b9) (b10:=a10) Nx.rfl;have HA:=Za g1;have HB:=Za g2;have HZ:=Za g3;have HN:=Za g4;clear g1 g2 g3 g4;generalize (((w.alloc (Obj.cells #[.string a0,.string a1,.string a2,.string a3,.string a4,.string a5,.string a6,.string a7,.string a8,.string a9,.string a10] 66)).alloc (Obj.cells #[.string b0,.string a1,.string a2,.string a3,.string a4,.string a5,.string a6,.string a7,.string b8,.string b9,.string a10] 66)).alloc (Obj.cells #[.string ⟨#[]⟩,.string ⟨#[]⟩,.string ⟨#[]⟩,.string ⟨#[]⟩,.string ⟨#[]⟩,.string ⟨#[]⟩,.string ⟨#[]⟩,.string ⟨#[]⟩,.string ⟨#[]⟩,.string ⟨#[]⟩,.string ⟨#[]⟩] 66))=w1 at *;obtain⟨x0,x1,x2,x3,x4,x5,x6,x7,x8,x9,x10⟩:=HA.out.cells;obtain⟨y0,y1,y2,y3,y4,y5,y6,y7,y8,y9,y10⟩:=HB.out.cells;obtain⟨z0,z1,z2,z3,z4,z5,z6,z7,z8,z9,z10⟩:=HZ.out.cells;have f0:=HA.out.free 0;have f9:=HA.out.free 9;have f8:=HA.out.free 8;have zf0:=HZ.out.free 0;have zf1:=HZ.out.free 1;have zf2:=HZ.out.free 2;have zf3:=HZ.out.free 3;have zf4:=HZ.out.free 4;have zf5:=HZ.out.free 5;have zf6:=HZ.out.free 6;have zf7:=HZ.out.free 7;have zf8:=HZ.out.free 8;have zf9:=HZ.out.free 9;have zf10:=HZ.out.free 10;rcases ho with h0|⟨hpos,h0⟩
 ·have h0b:((a8.size:Int)==0)=true:=by rw[h0];rfl
  clear h0;go_wp2
  exact ZqS (rb:=w.heap.size+1+1) Tryz.results34 rfl (C11.put (C11.far (C11.far (C11.far HZ.out (by omega) 0 _) (by omega) 9 _) (by omega) 8 _) _ _ _ _ _ _ _ _ _ _ _) rfl ⟨rfl,(Below.setCell (Below.setCell (Below.setCell (Below.setCell (Below.setCell (Below.setCell (Below.setCell (Below.setCell (Below.setCell (Below.setCell (Below.setCell (Below.setCell (Below.setCell (Below.setCell HN.out (Xa _) _) (Xa _) _) (Xa _) _) (by show w.heap.size≤w.heap.size+1+1;omega) _) (by show w.heap.size≤w.heap.size+1+1;omega) _) (by show w.heap.size≤w.heap.size+1+1;omega) _) (by show w.heap.size≤w.heap.size+1+1;omega) _) (by show w.heap.size≤w.heap.size+1+1;omega) _) (by show w.heap.size≤w.heap.size+1+1;omega) _) (by show w.heap.size≤w.heap.size+1+1;omega) _) (by show w.heap.size≤w.heap.size+1+1;omega) _) (by show w.heap.size≤w.heap.size+1+1;omega) _) (by show w.heap.size≤w.heap.size+1+1;omega) _) (by show w.heap.size≤w.heap.size+1+1;omega) _)⟩
 ·have h0b:((a8.size:Int)==0)=false:=beq_eq_false_iff_ne.2 (by omega)
  have hsl:((a8[0].toNat:Int)==47)=false:=beq_eq_false_iff_ne.2 (fun g=>h0 (UInt8.toNat_inj.1 (by show _=47;omega)))
  have hsl':((a8[0].toNat:Int) != 47)=true:=by simp only[bne,hsl];rfl
  clear h0;go_wp2
  exact ZqS (rb:=w.heap.size+1+1) Tryz.results34 rfl (C11.put (C11.far (C11.far (C11.far HZ.out (by omega) 0 _) (by omega) 9 _) (by omega) 8 _) _ _ _ _ _ _ _ _ _ _ _) rfl ⟨rfl,(Below.setCell (Below.setCell (Below.setCell (Below.setCell (Below.setCell (Below.setCell (Below.setCell (Below.setCell (Below.setCell (Below.setCell (Below.setCell (Below.setCell (Below.setCell (Below.setCell HN.out (Xa _) _) (Xa _) _) (Xa _) _) (by show w.heap.size≤w.heap.size+1+1;omega) _) (by show w.heap.size≤w.heap.size+1+1;omega) _) (by show w.heap.size≤w.heap.size+1+1;omega) _) (by show w.heap.size≤w.heap.size+1+1;omega) _) (by show w.heap.size≤w.heap.size+1+1;omega) _) (by show w.heap.size≤w.heap.size+1+1;omega) _) (by show w.heap.size≤w.heap.size+1+1;omega) _) (by show w.heap.size≤w.heap.size+1+1;omega) _) (by show w.heap.size≤w.heap.size+1+1;omega) _) (by show w.heap.size≤w.heap.size+1+1;omega) _) (by show w.heap.size≤w.heap.size+1+1;omega) _)⟩
theorem Zrj(a0 a1 a2 a3 a4 a5 a6 a7 a8 a9 a10 b0 b9:BA)(w:World)(h8:a8.size≤200000000000)(hpos:0<a8.size)(ho:a8[0]=47):Calls Tryz.prog 34 #[.agg #[.string a0,.string a1,.string a2,.string a3,.string a4,.string a5,.string a6,.string a7,.string a8,.string a9,.string a10],.agg #[.string b0,.string a1,.string a2,.string a3,.string a4,.string a5,.string a6,.string a7,.string a8,.string b9,.string a10],.int .i64 8] w fun e w'=>e=.returned (.agg #[.string b0,.string a1,.string a2,.string a3,.string a4,.string a5,.string a6,.string a7,.string a8,.string b9,.string a10])∧Nx w w':=by
 go_enter Tryz.func34,Tryz.ntmps34
 go_upto_region 1 with fail;obtain⟨g1,g2,g3,g4⟩:=ZlA (w:=w) (a0:=a0) (a1:=a1) (a2:=a2) (a3:=a3) (a4:=a4) (a5:=a5) (a6:=a6) (a7:=a7) (a8:=a8) (a9:=a9) (a10:=a10) (b0:=b0) (b1:=a1) (b2:=a2) (b3:=a3) (b4:=a4) (b5:=a5) (b6:=a6) (b7:=a7) (b8:=a8) (b9:=b9) (b10:=a10) Nx.rfl;have HA:=Za g1;have HB:=Za g2;have HZ:=Za g3;have HN:=Za g4;clear g1 g2 g3 g4;generalize (((w.alloc (Obj.cells #[.string a0,.string a1,.string a2,.string a3,.string a4,.string a5,.string a6,.string a7,.string a8,.string a9,.string a10] 66)).alloc (Obj.cells #[.string b0,.string a1,.string a2,.string a3,.string a4,.string a5,.string a6,.string a7,.string a8,.string b9,.string a10] 66)).alloc (Obj.cells #[.string ⟨#[]⟩,.string ⟨#[]⟩,.string ⟨#[]⟩,.string ⟨#[]⟩,.string ⟨#[]⟩,.string ⟨#[]⟩,.string ⟨#[]⟩,.string ⟨#[]⟩,.string ⟨#[]⟩,.string ⟨#[]⟩,.string ⟨#[]⟩] 66))=w1 at *;obtain⟨x0,x1,x2,x3,x4,x5,x6,x7,x8,x9,x10⟩:=HA.out.cells;obtain⟨y0,y1,y2,y3,y4,y5,y6,y7,y8,y9,y10⟩:=HB.out.cells;obtain⟨z0,z1,z2,z3,z4,z5,z6,z7,z8,z9,z10⟩:=HZ.out.cells;have f0:=HA.out.free 0;have f9:=HA.out.free 9;have zf0:=HZ.out.free 0;have zf1:=HZ.out.free 1;have zf2:=HZ.out.free 2;have zf3:=HZ.out.free 3;have zf4:=HZ.out.free 4;have zf5:=HZ.out.free 5;have zf6:=HZ.out.free 6;have zf7:=HZ.out.free 7;have zf8:=HZ.out.free 8;have zf9:=HZ.out.free 9;have zf10:=HZ.out.free 10
 have h0b:((a8.size:Int)==0)=false:=beq_eq_false_iff_ne.2 (by omega)
 have hsl:((a8[0].toNat:Int)==47)=true:=by rw[ho];rfl
 have hsl':((a8[0].toNat:Int) != 47)=false:=by simp only[bne,hsl];rfl
 clear ho;go_wp2
 exact ZqS (rb:=w.heap.size+1+1) Tryz.results34 rfl (C11.put (C11.far (C11.far HZ.out (by omega) 0 _) (by omega) 9 _) _ _ _ _ _ _ _ _ _ _ _) rfl ⟨rfl,(Below.setCell (Below.setCell (Below.setCell (Below.setCell (Below.setCell (Below.setCell (Below.setCell (Below.setCell (Below.setCell (Below.setCell (Below.setCell (Below.setCell (Below.setCell HN.out (Xa _) _) (Xa _) _) (by show w.heap.size≤w.heap.size+1+1;omega) _) (by show w.heap.size≤w.heap.size+1+1;omega) _) (by show w.heap.size≤w.heap.size+1+1;omega) _) (by show w.heap.size≤w.heap.size+1+1;omega) _) (by show w.heap.size≤w.heap.size+1+1;omega) _) (by show w.heap.size≤w.heap.size+1+1;omega) _) (by show w.heap.size≤w.heap.size+1+1;omega) _) (by show w.heap.size≤w.heap.size+1+1;omega) _) (by show w.heap.size≤w.heap.size+1+1;omega) _) (by show w.heap.size≤w.heap.size+1+1;omega) _) (by show w.heap.size≤w.heap.size+1+1;omega) _)⟩
theorem ZtI{u:U}{a0 a1 a2 a3 a4 a5 a6 a7 a8 a9 a10:BA}{e:Ending}(he:ZmF e u)(h0:tl a0=Zdg u)(h1:tl a1=ZZ u)(h2:tl a2=Zad u)(h3:tl a3=u.nam)(h4:tl a4=u.pw)(h5:tl a5=Zl u)(h6:tl a6=u.host)(h7:tl a7=ZC u)(h8:tl a8=pathU u)(h9:tl a9=Z4 u)(h10:tl a10=ZbX u):e=.returned (.agg #[.string a0,.string a1,.string a2,.string a3,.string a4,.string a5,.string a6,.string a7,.string a8,.string a9,.string a10]):=by obtain⟨t0,t1,t2,t3,t4,t5,t6,t7,t8,t9,t10,rfl,g0,g1,g2,g3,g4,g5,g6,g7,g8,g9,g10,-,-⟩:=he;rw[Za4 (g0.trans h0.symm),Za4 (g1.trans h1.symm),Za4 (g2.trans h2.symm),Za4 (g3.trans h3.symm),Za4 (g4.trans h4.symm),Za4 (g5.trans h5.symm),Za4 (g6.trans h6.symm),Za4 (g7.trans h7.symm),Za4 (g8.trans h8.symm),Za4 (g9.trans h9.symm),Za4 (g10.trans h10.symm)]
def Zuf(n:Nat)(e:Ending)(w':World)(x:U×Int):Prop:=
 e=.returned (.tuple #[.pointer none,.bool true])∨(x.2=0∧∃(ib pb:Nat) (r:Rc) (bs:List ByteArray),e=.returned (.tuple #[.pointer (some ⟨ib,0,none⟩),.bool true])∧ItemB w' ib pb∧UrlB w' pb r∧RcIs w' r x.1 bs∧n≤pb)
theorem ZtJ(s base:BA)(based:Bool)(w:World)(hs:s.size≤maxLen)(hb:base.size≤maxLen)(ht:Tb w):Calls Tryz.prog 11 #[.string s,.string base,.bool based] w fun e w'=>Zuf w.heap.size e w' (Zat (tl s) (tl base) based)∧Nx w w':=by
 have HTB:=Za ht;have HPA:=Za (Zhk s base based w hs hb ht)
 have HST:=Za (fun w1 (hn:Nx w w1)=>ZmR s.size hs w1 (HTB.out.on hn))
 clear ht;unfold maxLen at hs hb
 by_cases h1:65536<s.size
 ·clear HPA HST HTB
  go_enter Tryz.func11,Tryz.ntmps11
  go_wp2;go_ret2;exact⟨Or.inl rfl,Nx.rfl⟩
 by_cases h2:65536<base.size
 ·clear HPA HST HTB
  go_enter Tryz.func11,Tryz.ntmps11
  go_wp2;go_ret2;exact⟨Or.inl rfl,Nx.rfl⟩
 by_cases h3:160<s.size
 ·skip
  have HX:=Za (Zhc (tl s) (tl base) based (by rw[tl_length,tl_length];first|exact Or.inl h3|exact Or.inr ⟨rfl,h4⟩))
  go_enter Tryz.func11,Tryz.ntmps11
  go_wp2_with fail
  refine HPA.out.mono ?_
  rintro e w1 ⟨hp,hn⟩;have HN:=Za hn;clear hn HPA;generalize hpx:Zat (tl s) (tl base) based=x at *;obtain⟨xu,xe⟩:=x;have HPX:=Za hpx;clear hpx;simp only at HX;rcases hp with⟨hx,rfl⟩|⟨hx,pb,r,bs,rfl,hu,hr,hnew⟩
  ·obtain rfl:xe=1:=HX.out
   clear hx HX
   go_wp2_with (go_at_call 29;refine(HST.out _ HN.out).mono ?_;rintro e w2 ⟨rfl,hn2⟩;have HN2:=Za (HN.out.then hn2);clear hn2)
   go_ret2;exact⟨Or.inl rfl,HN2.out⟩
  ·exact absurd (hx.symm.trans HX.out) (by decide)
 cases based
 ·skip
  have HX:=Za (Zf6 (tl s) (tl base) false (by rw[tl_length,tl_length];exact fun h=>h.elim h3 (fun k=>by cases k.1)))
  have hd:decide (160<(s.size:Int))=false:=decide_eq_false (by omega)
  go_enter Tryz.func11,Tryz.ntmps11
  go_wp2_with fail
  refine HPA.out.mono ?_
  rintro e w1 ⟨hp,hn⟩;have HN:=Za hn;clear hn HPA;generalize hpx:Zat (tl s) (tl base) false=x at *;obtain⟨xu,xe⟩:=x;have HPX:=Za hpx;clear hpx;simp only at HX;rcases hp with⟨hx,rfl⟩|⟨hx,pb,r,bs,rfl,hu,hr,hnew⟩
  ·have hx0:(xe != 0)=true:=Zd9 (beq_eq_false_iff_ne.2 hx)
   have hx1:(xe==1)=false:=beq_eq_false_iff_ne.2 HX.out;clear hx HX
   go_wp2_with (go_at_call 29;refine(HST.out _ HN.out).mono ?_;rintro e w2 ⟨rfl,hn2⟩;have HN2:=Za (HN.out.then hn2);clear hn2)
   go_ret2
   exact⟨Or.inl (by first|rfl|simp[hd]),HN2.out⟩
  ·have HU:=Za hu
   have HNW:=Za hnew;clear hnew;have HR:=Za hr;simp only at hx;subst hx;clear hu hr HX HST;go_wp2;go_ret2
   exact⟨Or.inr ⟨by rw[HPX.out],w1.heap.size,pb,r,bs,rfl,Zjt w1 pb,HU.out.on (Nx.rfl.alloc _),by rw[HPX.out];exact HR.out.on (Nx.rfl.alloc _),HNW.out⟩,HN.out.alloc _⟩
 ·by_cases h4:160<base.size
  ·skip
   have HX:=Za (Zhc (tl s) (tl base) true (by rw[tl_length,tl_length];first|exact Or.inl h3|exact Or.inr ⟨rfl,h4⟩))
   have hd:decide (160<(s.size:Int))=false:=decide_eq_false (by omega)
   have hd4:decide (160<(base.size:Int))=true:=decide_eq_true (by omega)
   go_enter Tryz.func11,Tryz.ntmps11
   go_wp2_with fail
   refine HPA.out.mono ?_
   rintro e w1 ⟨hp,hn⟩;have HN:=Za hn;clear hn HPA;generalize hpx:Zat (tl s) (tl base) true=x at *;obtain⟨xu,xe⟩:=x;have HPX:=Za hpx;clear hpx;simp only at HX;rcases hp with⟨hx,rfl⟩|⟨hx,pb,r,bs,rfl,hu,hr,hnew⟩
   ·obtain rfl:xe=1:=HX.out
    clear hx HX
    go_wp2_with (go_at_call 29;refine(HST.out _ HN.out).mono ?_;rintro e w2 ⟨rfl,hn2⟩;have HN2:=Za (HN.out.then hn2);clear hn2)
    go_ret2
    exact⟨Or.inl (by first|rfl|simp[hd,hd4]),HN2.out⟩
   ·exact absurd (hx.symm.trans HX.out) (by decide)
  ·skip
   have HX:=Za (Zf6 (tl s) (tl base) true (by rw[tl_length,tl_length];exact fun h=>h.elim h3 (fun k=>h4 k.2)))
   have hd:decide (160<(s.size:Int))=false:=decide_eq_false (by omega)
   have hd4:decide (160<(base.size:Int))=false:=decide_eq_false (by omega)
   go_enter Tryz.func11,Tryz.ntmps11
   go_wp2_with fail
   refine HPA.out.mono ?_
   rintro e w1 ⟨hp,hn⟩;have HN:=Za hn;clear hn HPA;generalize hpx:Zat (tl s) (tl base) true=x at *;obtain⟨xu,xe⟩:=x;have HPX:=Za hpx;clear hpx;simp only at HX;rcases hp with⟨hx,rfl⟩|⟨hx,pb,r,bs,rfl,hu,hr,hnew⟩
   ·have hx0:(xe != 0)=true:=Zd9 (beq_eq_false_iff_ne.2 hx)
    have hx1:(xe==1)=false:=beq_eq_false_iff_ne.2 HX.out;clear hx HX
    go_wp2_with (go_at_call 29;refine(HST.out _ HN.out).mono ?_;rintro e w2 ⟨rfl,hn2⟩;have HN2:=Za (HN.out.then hn2);clear hn2)
    go_ret2
    exact⟨Or.inl (by first|rfl|simp[hd,hd4]),HN2.out⟩
   ·have HU:=Za hu
    have HNW:=Za hnew;clear hnew;have HR:=Za hr;simp only at hx;subst hx;clear hu hr HX HST;go_wp2;go_ret2
    exact⟨Or.inr ⟨by rw[HPX.out],w1.heap.size,pb,r,bs,rfl,Zjt w1 pb,HU.out.on (Nx.rfl.alloc _),by rw[HPX.out];exact HR.out.on (Nx.rfl.alloc _),HNW.out⟩,HN.out.alloc _⟩
theorem C11.but{w w':World}{b pb:Nat}{v0 v1 v2 v3 v4 v5 v6 v7 v8 v9 v10:Value}{r:Rc}(h:C11 w b v0 v1 v2 v3 v4 v5 v6 v7 v8 v9 v10)(hu:UrlB w pb r)(hb:But pb w w'):C11 w' b v0 v1 v2 v3 v4 v5 v6 v7 v8 v9 v10:=by
 refine(hb.block b (Xb.1 h).1 fun e=>?_).trans h
 subst e;unfold C11 at h;unfold UrlB at hu;rw[h]at hu;simp only[Option.some.injEq,Obj.cells.injEq]at hu
 exact absurd hu.2.1 (by decide)
theorem ItemB.but{w w':World}{b pb qb:Nat}{r:Rc}(h:ItemB w b qb)(hu:UrlB w pb r)(hb:But pb w w'):ItemB w' b qb:=by
 refine(hb.block b (Xb.1 h).1 fun e=>?_).trans h
 subst e;unfold ItemB at h;unfold UrlB at hu;rw[h]at hu;simp only[Option.some.injEq,Obj.cells.injEq]at hu
 exact absurd hu.2.1 (by decide)
end Go.Proofs.YtchkhibgbnhjpabGreatDoor
