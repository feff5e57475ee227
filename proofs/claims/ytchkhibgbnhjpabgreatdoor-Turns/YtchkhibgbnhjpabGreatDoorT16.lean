import Derived.Test.YtchkhibgbnhjpabGreatDoorT15
namespace Go.Proofs.YtchkhibgbnhjpabGreatDoor
open Go.RowKit
theorem Zxv(u:U)(h:St u)(l0:u.sch.length≤1000000)(e:Ending)(he:ZmF e u):∃v,e=.returned v∧∀w,Tb w→Calls Tryz.prog 38 #[v] w fun e w'=>e=.returned (.bool true)∧Nx w w':=by
 obtain⟨t0,t1,t2,t3,t4,t5,t6,t7,t8,t9,t10,rfl,h0,h1,h2,h3,h4,h5,h6,h7,h8,h9,h10,s5,s8⟩:=he
 refine⟨_,rfl,fun w ht=>?_⟩
 have hpro:tl t2=u.sch++[58]:=h2
 have z2:t2.size≤1000001:=by rw[←tl_length,hpro,List.length_append];simp;exact l0
 have hsp:ZuO (tl t2)=Zb u.sch:=by rw[hpro,Zvb]
 refine Zwq t0 t1 t2 t3 t4 t5 t6 t7 t8 t9 t10 w ht z2 s5 ?_ ?_ ?_
 ·intro e ef
  rw[hsp]at e;rw[hpro]at ef;rw[h1,h2,h5]
  exact Zxd e (fun x=>ef (Zvp.2 x))
 ·intro e eb
  rw[hsp,hpro]at e;rw[hpro]at eb;rw[h1]
  refine Zwp (fun x=>e ⟨x.1,fun y=>x.2 (Zvp.1 y)⟩) (fun x=>eb (by rw[x];rfl))
 ·intro e el
  rw[h1]at e ⊢
  exact Zx1 h e (by rw[←h1,tl_length];exact el)
end Go.Proofs.YtchkhibgbnhjpabGreatDoor
