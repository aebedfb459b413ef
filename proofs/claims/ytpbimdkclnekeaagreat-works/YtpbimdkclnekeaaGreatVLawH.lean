import Derived.Test.YtpbimdkclnekeaaGreatVLawC
open Go.Value renaming int → I
open Go.IntKind renaming i64 → J
open Go.IntKind (i32)
set_option linter.unusedVariables false
set_option maxRecDepth 8000
set_option maxHeartbeats 8000000
namespace Go.Proofs.YtpbimdkclnekeaaGreat
open Go.RowKit
theorem zjW{B:Nat}{w:World}{wb:Nat}{pv lv:Value}{ps:List Nat}(hw:w.1[wb]?=some (.cells #[pv,lv] 63 (0,0)))(r:w.ownsRow B 103 1 pv ps.length (ps.map (fun q=> .pointer (some ⟨q,0,none⟩)))){i s:Nat}(y:ps[i]?=some s)(G:s<w.1.size)(E:w.cell? ⟨s,14,none⟩=some (.bool false))(o:Ops)(F:∀w:World,Calls Tryz.prog 54 #[I J o.on,I J ps.length] w fun e w'=>e=.returned (I J i)/\w'=w)(R:World->Prop)(d:Int)(k1:¬d=1)(n:d<=9)
  (HC:d=2\/d=3\/d=6\/d=7\/d=8->∀M,Below w.1.size w M->Calls Tryz.prog 55 #[.pointer (some ⟨s,0,none⟩),.agg #[I J d,I J o.on,I J o.a,I J o.b,I J o.c,I i32 o.v,I J o.te,I J o.tn,I J o.fs,I J o.fe,I J o.fd,I J o.fw,I J o.fk,I J o.fq,.slice o.fa o.fn o.fc]] M fun e w'=>e=.returned (.bool true)/\R w')
  (HA:d=4\/d=5\/d=9->∀M,Below w.1.size w M->Calls Tryz.prog 56 #[.pointer (some ⟨wb,0,none⟩),.pointer (some ⟨s,0,none⟩),.agg #[I J d,I J o.on,I J o.a,I J o.b,I J o.c,I i32 o.v,I J o.te,I J o.tn,I J o.fs,I J o.fe,I J o.fd,I J o.fw,I J o.fk,I J o.fq,.slice o.fa o.fn o.fc]] M fun e w'=>e=.returned (.bool true)/\R w')
  (O:∀w',Below w.1.size w w'->R w'):
  Calls Tryz.prog 21 #[.pointer (some ⟨wb,0,none⟩),.agg #[I J d,I J o.on,I J o.a,I J o.b,I J o.c,I i32 o.v,I J o.te,I J o.tn,I J o.fs,I J o.fe,I J o.fd,I J o.fw,I J o.fk,I J o.fq,.slice o.fa o.fn o.fc]] w fun e w'=>e=.returned (.bool true)/\R w':=by
 obtain⟨pa,ae,rfl⟩:=zq r
 have Z:i<ps.length:=(List.getElem?_eq_some_iff.1 y).1
 obtain⟨gb,ac,Y,_,D⟩:=r.form (by omega)
 cases Y
 have L:=zd hw
 have g:Below w.1.size w (w.alloc (.cells #[I J d,I J o.on,I J o.a,I J o.b,I J o.c,I i32 o.v,I J o.te,I J o.tn,I J o.fs,I J o.fe,I J o.fd,I J o.fw,I J o.fk,I J o.fq,.slice o.fa o.fn o.fc] 68)):=(Below.refl _ _).alloc (Nat.le_refl _) _
 have x:=zo w (.cells #[I J d,I J o.on,I J o.a,I J o.b,I J o.c,I i32 o.v,I J o.te,I J o.tn,I J o.fs,I J o.fe,I J o.fd,I J o.fw,I J o.fk,I J o.fq,.slice o.fa o.fn o.fc] 68)
 have H:=zF w (.cells #[I J d,I J o.on,I J o.a,I J o.b,I J o.c,I i32 o.v,I J o.te,I J o.tn,I J o.fs,I J o.fe,I J o.fd,I J o.fw,I J o.fk,I J o.fq,.slice o.fa o.fn o.fc] 68)
 have K:=(g.block wb L).trans hw
 have A:=zkY r y
 have V:=((g.cell (p:=⟨gb,i,none⟩) D)).trans A
 have C:=((g.cell (p:=⟨s,14,none⟩) G)).trans E
 have am:(i:Int)<(ps.length:Int):=by omega
 have ad:¬(ps.length:Int)=0:=by omega
 have HB:=ze g
 have S:=fun W=>ze (F W)
 obtain⟨z0,-⟩:=zc K
 obtain⟨y0,y1,-⟩:=zc x
 have HL:=ze x
 have af:=ze H
 have k:=ze HC
 have j:=ze HA
 have l:=ze n
 have aq:¬d=13:=by omega
 clear r x g H hw K F E A y Z HC HA n
 go_enter Tryz.func21,Tryz.ntmps21
 go_wp2_with fail
 have q1:wb<w.1.size+1:=by omega
 have q2:gb<w.1.size+1:=by omega
 have q3:s<w.1.size+1:=by omega
 have q4:w.1.size<w.1.size+1:=by omega
 clear L D G
 generalize(w.alloc (.cells #[I J d,I J o.on,I J o.a,I J o.b,I J o.c,I i32 o.v,I J o.te,I J o.tn,I J o.fs,I J o.fe,I J o.fd,I J o.fw,I J o.fk,I J o.fq,.slice o.fa o.fn o.fc] 68))=X at*
 generalize w.1.size+1=N at*
 have ab:Nonempty (zm N X):=zm.some _ _
 have aa:=fun(u:zm N X) b o h=>u.cell b o h
 refine zh N (by kernel_rfl) (by kernel_rfl) ?_
 repeat(go_big_quiet_step (first|(go_at_call 54;exact Calls.later_same (ud (S _)))))
 refine wpQuiet_nil ?_
 rintro⟨Q,m⟩
 clear aa ab
 have al:=(m.cell (p:=⟨s,14,none⟩) q3).trans C
 have z:=(m.block w.1.size q4).trans (ud HL)
 have f:Below w.1.size w Q:=(ud HB).trans (m.mono (Nat.le_of_lt q4))
 obtain⟨a0,a1,a2,a3,a4,a5,a6,a7,a8,a9,ag,ah,ai,aj,ak,-⟩:=zc z
 dsimp only
 clear z C V y0 y1 z0 m q1 q2 q3 q4
 by_cases P:d=2\/d=3\/d=6\/d=7\/d=8
 ·have t:=ze (ud k P Q f)
  clear k j O f l
  rcases P with rfl|rfl|rfl|rfl|rfl<;>(go_wp2_with(first|(go_at_call 55;refine(ud t).mono ?_;rintro e w' ⟨rfl,U⟩)|fail);go_ret;exact⟨rfl,U⟩)
 by_cases T:d=4\/d=5\/d=9
 ·have t:=ze (ud j T Q f)
  clear k j O f l P
  rcases T with rfl|rfl|rfl<;>(go_wp2_with(first|(go_at_call 56;refine(ud t).mono ?_;rintro e w' ⟨rfl,U⟩)|fail);go_ret;exact⟨rfl,U⟩)
 have n:=ud l
 have HR:=ze (O Q f)
 have k2:¬d=2:=by omega
 have k3:¬d=3:=by omega
 have k4:¬d=4:=by omega
 have k5:¬d=5:=by omega
 have k6:¬d=6:=by omega
 have k7:¬d=7:=by omega
 have k8:¬d=8:=by omega
 have k9:¬d=9:=by omega
 have an:¬d=10:=by omega
 have ao:¬d=11:=by omega
 have ap:¬d=12:=by omega
 clear k j O f l P T n
 go_wp2_with fail
 go_ret
 exact⟨rfl,ud HR⟩
end Go.Proofs.YtpbimdkclnekeaaGreat
