import Derived.Test.YtndhpgciopcncaaGreatDoorXMlz0
import Derived.Test.YtndhpgciopcncaaGreatDoorXAll1
set_option linter.unusedVariables false
set_option maxRecDepth 20000
set_option maxHeartbeats 4000000
namespace Go.Proofs.YtndhpgciopcncaaGreatDoor
open Go.RowKit Go.Maps Go.Shelf
open Go.ChangeMaps (setBlock)
theorem jF(n:Int)(w:World)(h:0<=n/\n<4):Calls Tryz.prog 60 #[I n] w fun e w'=>e=.returned (.bool true)/\w'=w:=by
 obtain⟨a,b⟩:=h;go_enter Tryz.func60,Tryz.ntmps60;go_wp2_with fail;go_ret;exact⟨rfl,rfl⟩
theorem zfZ{dn:Bool}{w:World}{i:Ids}{c:Cf}{ep:Int}{m:MS}(h:qk dn w i c ep m)(y:c.ok)(se tm val:Int)(l:0<=se/\se<4)(s:0<=tm/\tm<=m.now)(a9:m.now-c.la<=tm)(a0:m.now<=100000)(a1: -2147483648<=val/\val<=2147483647)(hu:0<=xh m.L/\xh m.L<=1000)(N:zox m.L)(K:∀k:Nat,k<c.n->zU m.Gl (qK c se tm k)=none)(a6:c.qu<xh m.L+(1+2*yv c m.L ⟨se,tm,val⟩ c.n)):
  Calls Tryz.prog 27 #[(O i.x),I se,I tm,i_ val] w (Rz w (I 4)):=by
 obtain⟨a,cap,S,R⟩:=h.ts;obtain⟨T,V,X,Y,Z,c5,D,c7,c8,c9,-⟩:=h.cells;rw[S]at D;have f:=h.lt;obtain⟨ac,ad⟩:=y.qu;obtain⟨a7,a8⟩:=y.la;have aa:=jm c m.L ⟨se,tm,val⟩ c.n;have ab:=y.n4;have HU:=fun W J=>ze (Ql ((h.later (w':=W) J).set) (by unfold xX;omega));have z:=fun W J=>ze (zbN ((h.later (w':=W) J).set) y se tm val l ⟨s.1,by omega⟩ N K);have HQ:=fun W=>ze (QR c a cap W);have B:=fun W=>ze (YN c a cap W);have A:=fun W=>ze (jF se W l);obtain⟨ae,af⟩:=hu;have a3:decide (tm<0)=false:=by simp;omega
 have a4:decide (m.now<tm)=false:=by simp;omega
 have a5:decide (tm<m.now-c.la)=false:=by simp;omega
 have H:=ze h;generalize G:xh m.L=U9 at*;generalize F:yv c m.L ⟨se,tm,val⟩ c.n=M at*;obtain⟨P,Q⟩:=s;have s:0<=tm/\tm<=m.now:=⟨P,Q⟩;clear h R G F;go_enter Tryz.func27,Tryz.ntmps27;go_wp2_with(first|(go_at_call 60;refine(A _).mono ?_;rintro e W9 ⟨rfl,h9⟩;have E:=h9.symm;subst E));have v:Nonempty (zm w.1.size w):=zm.some _ _;have t:=fun(u:zm w.1.size w) b o h=>u.cell b o h;refine zh w.1.size (by kernel_rfl) (by kernel_rfl) ?_;repeat(go_big_quiet_step (first
  |(go_at_call 61;exact Calls.later (Nat.le_refl _) (B _))))
 refine wpQuiet_nil ?_;rintro⟨w1,d⟩;dsimp only;clear t v;go_wp2_with fail;have d0:=(d.cell (p:=(U i.x 0)) f).trans T;have d1:=(d.cell (p:=(U i.x 1)) f).trans V;have d2:=(d.cell (p:=(U i.x 2)) f).trans X;have d3:=(d.cell (p:=(U i.x 3)) f).trans Y;have d4:=(d.cell (p:=(U i.x 4)) f).trans Z;have d5:=(d.cell (p:=(U i.x 5)) f).trans c5;have d6:=(d.cell (p:=(U i.x 6)) f).trans D;have d7:=(d.cell (p:=(U i.x 7)) f).trans c7;have d8:=(d.cell (p:=(U i.x 8)) f).trans c8;have d9:=(d.cell (p:=(U i.x 9)) f).trans c9;have a2:=Nat.lt_of_lt_of_le f d.size;have g:=ze d;clear T V X Y Z c5 D c7 c8 c9 d;have r:Nonempty (zm w1.1.size w1):=zm.some _ _;have q:=fun(u:zm w1.1.size w1) b o h=>u.cell b o h;refine zh w1.1.size (by kernel_rfl) (by kernel_rfl) ?_;repeat(go_big_quiet_step (first
  |(go_at_call 43;exact Calls.later (Nat.le_refl _) (ud (HU _ (g.trans (Below.mono (Subtype.property _) g.size)))))
  |(go_at_call 62;exact Calls.later (Nat.le_refl _) (ud (z _ (g.trans (Below.mono (Subtype.property _) g.size)))))
  |(go_at_call 63;exact Calls.later (Nat.le_refl _) (HQ _))))
 refine wpQuiet_nil ?_;rintro⟨w2,j⟩;dsimp only;clear q r;have C:=ze (g.trans (j.mono g.size));clear j d0 d1 d2 d3 d4 d5 d6 d7 d8 d9;go_wp2_with fail;go_ret;exact⟨rfl,C⟩
