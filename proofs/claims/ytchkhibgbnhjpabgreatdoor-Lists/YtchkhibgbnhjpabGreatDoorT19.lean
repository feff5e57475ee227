import Derived.Test.YtchkhibgbnhjpabGreatDoorT17
open List renaming getElem?_eq_getElem→Xa
open Nat renaming le_trans→Xb,zero_le→Xc
open Go.Value renaming bool→C,int→I
open Go.IntKind renaming i64→X
open Go.Ending renaming returned→Y
namespace Go.Proofs.YtchkhibgbnhjpabGreatDoor
open Tryz
open Go.RowKit
set_option maxHeartbeats 16000000
set_option maxRecDepth 8000
variable [Fl]
set_option linter.all false
theorem ZMe(wi:World)(n wb:Nat)(q:Bool)(us ps ts:Value)(own:Nat->Nat×Nat)(S:Scr)(w:World)(h:Inv wi n w wb q us ps ts own S)(hn:n<=100000):Calls prog 126 #[.pointer (some ⟨wb,0,none⟩)] w fun e w'=>e=Y (C true)/\Nx w w':=by
 have H:=A h;obtain⟨ao,cap,hue,hcl,hrow⟩:=Zz4 h.ru;have hun:S.us.length<=100000:=Xb h.cnt.1 hn;have HROW:=A hrow;obtain⟨m,hm⟩:∃m,m=S.us.length:=⟨_,rfl⟩;rw[<-hm]at hue hcl hun HROW;have HM:=A hm;clear h hrow hm;subst hue
 go_enter func126,ntmps126
 go_wp2
 go_loopw [3] (fun i wr=>∃k:Nat,k<=m/\i=I X k/\Nx w wr) (fun i _=>m-(intOf i).toNat)
 case atStart=>exact⟨0,Xc _,rfl,Nx.rfl⟩
 case round=>
  obtain⟨k,hk,rfl,hnx⟩:=hrel;have HN:=A hnx;obtain⟨q0,q1,q2,q3,hwl⟩:=(H.o.wbk.on hnx).facts
  by_cases hlt:k<m
  .obtain⟨g,hg,hgc⟩:=HROW.o (by omega)
   subst hg
   obtain⟨e,he⟩:∃e,S.us[k]?=some e:=⟨_,Xa (by rw[<-HM.o];exact hlt)⟩
   have hcell:=(World.cell?_of_block (a:=⟨g,k,none⟩) (hnx.block g (ZAd H.o.ru rfl))).trans (hgc k e.p (by rw[List.getElem?_map,he];rfl))
   unfold UE.p at hcell;have H2:=A (H.o.on hnx);have HU:=A (H2.o.uo k e he).1;have HSZ:=A (H2.o.sizes he).2;clear hgc he hnx;go_wp2_with fail
   refine(ZLS e.pp e.pb e.ub e.rb e.r e.u e.bs e.R e.rs e.v e.ps wr HU.o.pair HU.o.both H2.o.tb).mono ?_
   rintro e' w1 ⟨rfl,hn1⟩;have HN1:=A hn1;have hcell1:=(World.cell?_of_block (hn1.block g (World.block_lt_of_cell? wr _ hcell))).trans hcell;obtain⟨r0,r1,r2,r3,hwl1⟩:=(H2.o.wbk.on hn1).facts;clear hn1 q0 q1 q2 q3 hwl hcell;go_wp2_with fail
   refine(ZGS e.pp e.pb e.ub e.rb e.r e.u e.bs e.R e.rs e.v e.ps w1 (HU.o.pair.on HN1.o) (HU.o.both.on HN1.o) HSZ.o).mono ?_
   rintro e' w2 ⟨rfl,hn2⟩;have HN2:=A ((HN.o.then HN1.o).then hn2);clear hn2 r0 r1 r2 r3 hwl1 hcell1;go_wp2
   go_roundw
   exact⟨k+1,by omega,by go_num,HN2.o⟩
   simp[intOf];omega
  .go_wp2
   go_ret;exact⟨rfl,HN.o⟩
theorem ZI0(wi:World)(n wb:Nat)(q:Bool)(us ps ts:Value)(own:Nat->Nat×Nat)(S:Scr)(w:World)(h:Inv wi n w wb q us ps ts own S)(hn:n<=100000):Calls prog 125 #[.pointer (some ⟨wb,0,none⟩)] w fun e w'=>e=Y (C true)/\Nx w w':=by
 have H:=A h;obtain⟨ao,cap,hpe,hcl,hrow⟩:=Zz4 h.rp;obtain⟨bo,bap,hte,hbl,hrot⟩:=Zz4 h.rt;have hpn:S.ps.length<=100000:=Xb h.cnt.2.1 hn;have htn:S.ts.length<=100000:=Xb h.cnt.2.2 hn;have HROW:=A hrow;have HROT:=A hrot;obtain⟨m,hm⟩:∃m,m=S.ps.length:=⟨_,rfl⟩;obtain⟨l,hl⟩:∃l,l=S.ts.length:=⟨_,rfl⟩;rw[<-hm]at hpe hcl hpn HROW;rw[<-hl]at hte hbl htn HROT;have HM:=A hm;have HL:=A hl;clear h hrow hrot hm hl;subst hpe;subst hte
 go_enter func125,ntmps125
 go_wp2
 go_loopw [3] (fun i wr=>∃k:Nat,k<=m/\i=I X k/\Nx w wr) (fun i _=>m-(intOf i).toNat)
 case atStart=>exact⟨0,Xc _,rfl,Nx.rfl⟩
 case round=>
  obtain⟨k,hk,rfl,hnx⟩:=hrel;have HN:=A hnx;obtain⟨q0,q1,q2,q3,hwl⟩:=(H.o.wbk.on hnx).facts
  by_cases hlt:k<m
  .obtain⟨g,hg,hgc⟩:=HROW.o (by omega)
   subst hg
   obtain⟨p,hp⟩:∃p,S.ps[k]?=some p:=⟨_,Xa (by rw[<-HM.o];exact hlt)⟩
   obtain⟨f1,f2⟩:=ZC6 (f:=HP.c) (fun _=>rfl) hp
   have hblk:=hnx.block g (ZAd H.o.rp rfl);have c0:=(World.cell?_of_block (a:=⟨g,k*2,none⟩) hblk).trans (hgc _ _ f1);have c1:=(World.cell?_of_block (a:=⟨g,k*2+1,none⟩) hblk).trans (hgc _ _ f2);have HPO:=A ((H.o.on hnx).po k p hp).1;clear hgc hp f1 f2 hblk hnx;go_upto_region 4 with fail
   go_cut [4]from 16 to 34 (fun x wx=>x=C true/\Nx wr wx)
   case first=>
    go_region_with (go_at_call 59;refine(ZB2 _ _ p.l p.l _ ((OwnP.at HPO.o.real).on (by first|exact Nx.rfl.drew|exact Nx.rfl)) ((OwnP.at HPO.o.want).on (by first|exact Nx.rfl.drew|exact Nx.rfl))).mono ?_;rintro e' w' ⟨rfl,hn'⟩;rw[decide_eq_true (rfl:p.l=p.l)];have HN':=A (show Nx wr w' from Nx.then (show Nx wr _ by first|exact Nx.rfl.drew|exact Nx.rfl) hn');clear hn')
    all_goals go_wp2_with fail
    all_goals go_meet
    all_goals exact⟨rfl,HN'.o⟩
   obtain⟨hx,hnn⟩:=hcut;subst hx;have HN2:=A (HN.o.then hnn);clear hnn q0 q1 q2 q3 hwl c0 c1;go_wp2
   go_roundw
   exact⟨k+1,by omega,by go_num,HN2.o⟩
   simp[intOf];omega
  .clear q0 q1 q2 q3 hwl
   obtain⟨w1,hw1⟩:∃w1,w1=wr:=⟨_,rfl⟩;subst hw1;obtain⟨q0,q1,q2,q3,hwl⟩:=(H.o.wbk.on HN.o).facts;go_upto_region 7 with fail;go_wp2
   go_loopw [5] (fun i wr=>∃k:Nat,k<=l/\i=I X k/\Nx w wr) (fun i _=>l-(intOf i).toNat)
   case atStart=>exact⟨0,Xc _,rfl,HN.o⟩
   case round=>
    obtain⟨j,hj,rfl,hnx2⟩:=hrel;have HNT:=A hnx2;clear q0 q1 q2 q3 hwl;obtain⟨q0,q1,q2,q3,hwl⟩:=(H.o.wbk.on hnx2).facts
    by_cases hlt2:j<l
    .obtain⟨g,hg,hgc⟩:=HROT.o (by omega)
     subst hg
     obtain⟨p,hp⟩:∃p,S.ts[j]?=some p:=⟨_,Xa (by rw[<-HL.o];exact hlt2)⟩
     obtain⟨f1,f2⟩:=ZC6 (f:=HT.c) (fun _=>rfl) hp
     have hblk:=hnx2.block g (ZAd H.o.rt rfl);have c0:=(World.cell?_of_block (a:=⟨g,j*2,none⟩) hblk).trans (hgc _ _ f1);have c1:=(World.cell?_of_block (a:=⟨g,j*2+1,none⟩) hblk).trans (hgc _ _ f2);have HPO:=A ((H.o.on hnx2).to_ j p hp).1;clear hgc hp f1 f2 hblk hnx2;go_upto_region 10 with fail
     go_cut [6]from 44 to 62 (fun x wx=>x=C true/\Nx wr wx)
     case first=>
      go_region_with (go_at_call 46;refine(ZBu _ _ p.l p.l _ ((Zcf HPO.o.real).on (by first|exact Nx.rfl.drew|exact Nx.rfl)) ((Zcf HPO.o.want).on (by first|exact Nx.rfl.drew|exact Nx.rfl))).mono ?_;rintro e' w' ⟨rfl,hn'⟩;rw[decide_eq_true (rfl:p.l=p.l)];have HN':=A (show Nx wr w' from Nx.then (show Nx wr _ by first|exact Nx.rfl.drew|exact Nx.rfl) hn');clear hn')
      all_goals go_wp2_with fail
      all_goals go_meet
      all_goals exact⟨rfl,HN'.o⟩
     obtain⟨hx,hnn⟩:=hcut;subst hx;have HN2:=A (HNT.o.then hnn);clear hnn q0 q1 q2 q3 hwl c0 c1;go_wp2
     go_roundw
     exact⟨j+1,by omega,by go_num,HN2.o⟩
     simp[intOf];omega
    .go_wp2
     go_ret;exact⟨rfl,HNT.o⟩
end Go.Proofs.YtchkhibgbnhjpabGreatDoor
