import Derived.Test.YtndhpgciopcncaaGreatDoorYWkv
import Derived.Test.YtndhpgciopcncaaGreatDoorYJn2
open Go.Value renaming int → I
open Go.IntKind renaming i64 → J
open Option renaming none → K
open Go.IntKind renaming i32 → O
open Option renaming some → E
open Nat renaming lt_of_lt_of_le → Q
open Go.RowKit renaming Below → U
open Go renaming World → N
set_option linter.unusedVariables false
set_option maxRecDepth 8000
set_option maxHeartbeats 8000000
namespace Go.Proofs.YtndhpgciopcncaaGreatDoor
open Go.RowKit
theorem qW{V:N}{z a i:Nat}(hn:¬a=z)(b:a<V.1.size)(c d e g:Value):((((V.setCell ⟨z,0,K⟩ c).setCell ⟨z,1,K⟩ d).setCell ⟨z,2,K⟩ e).setCell ⟨z,3,K⟩ g).cell? ⟨a,i,K⟩=V.cell? ⟨a,i,K⟩:=
 zF (f:=fun k=>k=z) (zq (zq (zq (zq (zk.refl _ _) rfl) rfl) rfl) rfl) hn b
structure AQq(w Y:N)(z:Nat)(op:Obj)(Q1 Q2 Q3 Q4:Int):Prop where
 below:U w.1.size w Y
 low:w.1.size+3<=z
 cell:Y.1[z]?=E (.cells #[I J Q1,I J Q2,I O Q3,I O Q4] 115)
 op:Y.1[w.1.size]?=E op
 res:Y.1[w.1.size+1]?=E (.cells #[I J 0,I J 0,I O 0,I O 0] 115)
theorem zhZ{w:N}{g:Nat}{a b c d:Value}{t:TypeId}(h:w.1[g]?=E (.cells #[a,b,c,d] t))(e f j k:Value):((((w.setCell ⟨g,0,K⟩ e).setCell ⟨g,1,K⟩ f).setCell ⟨g,2,K⟩ j).setCell ⟨g,3,K⟩ k).1[g]?=E (.cells #[e,f,j,k] t):=by
 have l:(w.setCell ⟨g,0,K⟩ e).1[g]?=E (.cells #[e,b,c,d] t):=xi (i:=0) h e
 have m:((w.setCell ⟨g,0,K⟩ e).setCell ⟨g,1,K⟩ f).1[g]?=E (.cells #[e,f,c,d] t):=xi (i:=1) l f
 have n:(((w.setCell ⟨g,0,K⟩ e).setCell ⟨g,1,K⟩ f).setCell ⟨g,2,K⟩ j).1[g]?=E (.cells #[e,f,j,d] t):=xi (i:=2) m j
 exact xi (i:=3) n k
theorem zen{w:N}{g:Nat}(a b c d:Value):zk (fun k=>k=g) w ((((w.setCell ⟨g,0,K⟩ a).setCell ⟨g,1,K⟩ b).setCell ⟨g,2,K⟩ c).setCell ⟨g,3,K⟩ d):=
 zq (zq (zq (zq (zk.refl _ _) rfl) rfl) rfl) rfl
theorem AQq.ahead{w X V:N}{c:Obj}{Q1 Q2 Q3 Q4:Int}(f:U w.1.size w X)(j:X.1.size=w.1.size+3)(d:X.1[w.1.size]?=E c)(e:X.1[w.1.size+1]?=E (.cells #[I J 0,I J 0,I O 0,I O 0] 115))(hv:U X.1.size X V)(h:V.1[X.1.size]?=E (.cells #[I J 0,I J 0,I O 0,I O 0] 115)):
  AQq w ((((V.setCell ⟨X.1.size,0,K⟩ (I J Q1)).setCell ⟨X.1.size,1,K⟩ (I J Q2)).setCell ⟨X.1.size,2,K⟩ (I O Q3)).setCell ⟨X.1.size,3,K⟩ (I O Q4)) X.1.size c Q1 Q2 Q3 Q4:=by
 have b:=zen (w:=V) (g:=X.1.size) (I J Q1) (I J Q2) (I O Q3) (I O Q4)
 have i:=hv.size
 have a:U X.1.size X _:=hv.trans (b.below i (fun k b=>by omega))
 exact⟨f.trans (a.mono (by omega)),by omega,zhZ h _ _ _ _,(a.block w.1.size (by omega)).trans d,(a.block (w.1.size+1) (by omega)).trans e⟩
theorem AQq.behind{w X V:N}{b:Obj}{Q1 Q2 Q3 Q4:Int}(e:U w.1.size w X)(g:X.1.size=w.1.size+3)(c:X.1[w.1.size]?=E b)(d:X.1[w.1.size+1]?=E (.cells #[I J 0,I J 0,I O 0,I O 0] 115))(hv:U X.1.size X V):
  AQq w (V.alloc (.cells #[I J Q1,I J Q2,I O Q3,I O Q4] 115)) V.1.size b Q1 Q2 Q3 Q4:=by
 have f:=hv.size
 have a:=hv.alloc f (.cells #[I J Q1,I J Q2,I O Q3,I O Q4] 115)
 exact⟨e.trans (a.mono (by omega)),by omega,zr V _,(a.block w.1.size (by omega)).trans c,(a.block (w.1.size+1) (by omega)).trans d⟩
structure ARq(w Y:N)(z:Nat)(Q1 Q2 Q3 Q4:Int):Prop where
 below:U w.1.size w Y
 cell:Y.1[z]?=E (.cells #[I J Q1,I J Q2,I O Q3,I O Q4] 115)
theorem ARq.ahead{X V:N}{Q1 Q2 Q3 Q4:Int}(hv:U X.1.size X V)(b:V.1[X.1.size]?=E (.cells #[I J 0,I J 0,I O 0,I O 0] 115)):
  ARq X ((((V.setCell ⟨X.1.size,0,K⟩ (I J Q1)).setCell ⟨X.1.size,1,K⟩ (I J Q2)).setCell ⟨X.1.size,2,K⟩ (I O Q3)).setCell ⟨X.1.size,3,K⟩ (I O Q4)) X.1.size Q1 Q2 Q3 Q4:=by
 have a:=zen (w:=V) (g:=X.1.size) (I J Q1) (I J Q2) (I O Q3) (I O Q4)
 exact⟨hv.trans (a.below hv.size (fun k a=>by omega)),zhZ b _ _ _ _⟩
theorem ARq.behind{X V:N}{Q1 Q2 Q3 Q4:Int}(hv:U X.1.size X V):
  ARq X (V.alloc (.cells #[I J Q1,I J Q2,I O Q3,I O Q4] 115)) V.1.size Q1 Q2 Q3 Q4:=⟨hv.alloc hv.size _,zr V _⟩
theorem JP{w:N}{wb s x d r:Nat}{c:Cf}{ct mv td:Value}{ep:Int}(aH:w.1[s]?=E (zD x d c ct mv td ep))(ad:w.ownsRow 0 138 1 mv 1 [.pointer (E ⟨r,0,K⟩)])(o:Ops){Q1 Q2 Q3 Q4 QE:Int}
  (aA:∀V,U w.1.size w V->Calls Tryz.prog 57 #[.pointer (E ⟨x,0,K⟩),I J o.a,I J o.b,I J o.c] V fun e V'=>e=.returned (.tuple #[.agg #[I J Q1,I J Q2,I O Q3,I O Q4],I J QE])/\U V.1.size V V')
  (aB:∀V,U w.1.size w V->Calls Tryz.prog 144 #[.pointer (E ⟨r,0,K⟩),I J o.a,I J o.b,I J o.c] V fun e V'=>e=.returned (.tuple #[.agg #[I J Q1,I J Q2,I O Q3,I O Q4],I J QE])/\U V.1.size V V'):
  Calls Tryz.prog 81 #[.pointer (E ⟨wb,0,K⟩),.pointer (E ⟨s,0,K⟩),.agg #[I J 4,I J o.on,I J o.a,I J o.b,I J o.c,I O o.v,I J o.te,I J o.tn,I J o.fs,I J o.fe,I J o.fb,I J o.fw,I J o.fk,I J o.fq,.slice o.fa o.fn o.fc]] w fun e w'=>e=.returned (.bool true)/\∃(Z:N) (g cap:Nat),w'=Z.setCell ⟨s,9,K⟩ (.slice (E ⟨g,0,K⟩) 1 cap)/\U w.1.size w Z/\Z.ownsRow 0 138 1 (.slice (E ⟨g,0,K⟩) 1 cap) 1 [.pointer (E ⟨r,0,K⟩)]/\w.1.size<=g:=by
 have ar:=zb aH
 obtain⟨y0,y1,y2,G,yz⟩:=Ys w (.cells #[I J 4,I J o.on,I J o.a,I J o.b,I J o.c,I O o.v,I J o.te,I J o.tn,I J o.fs,I J o.fe,I J o.fb,I J o.fw,I J o.fk,I J o.fq,.slice o.fa o.fn o.fc] 82) (.cells #[I J 0,I J 0,I O 0,I O 0] 115) (.cells #[I J 0,I J 0,I J 0,I J 0,I J 0,I J 0,I J 0,I J 0] 37)
 have aj:=fun(V:N) (f:U w.1.size w V)=>zd (aA V f)
 have ak:=fun(V:N) (f:U w.1.size w V)=>zd (aB V f)
 obtain⟨mb,bc,aI,_,ae⟩:=ad.form (by omega)
 have aR:Hid (w.cell? ⟨mb,0,K⟩=E (.pointer (E ⟨r,0,K⟩))):=by
  have:=ad
  rw[aI]at this
  show _=_
  rw[this.cellAt 0 (by omega)];rfl
 have ah:=zd aH
 go_enter Tryz.func81,Tryz.ntmps81
 clear aA aB
 go_wp2_with fail
 generalize(((w.alloc (.cells #[I J 4,I J o.on,I J o.a,I J o.b,I J o.c,I O o.v,I J o.te,I J o.tn,I J o.fs,I J o.fe,I J o.fb,I J o.fw,I J o.fk,I J o.fq,.slice o.fa o.fn o.fc] 82)).alloc (.cells #[I J 0,I J 0,I O 0,I O 0] 115)).alloc (.cells #[I J 0,I J 0,I J 0,I J 0,I J 0,I J 0,I J 0,I J 0] 37))=X at*
 have a7:=zr X (.cells #[I J 0,I J 0,I O 0,I O 0] 115)
 have A:U X.1.size X (X.alloc (.cells #[I J 0,I J 0,I O 0,I O 0] 115)):=(Below.refl _ _).alloc (Nat.le_refl _) _
 have av:(X.alloc (.cells #[I J 0,I J 0,I O 0,I O 0] 115)).1.size=X.1.size+1:=zG X _
 have a8:X.1.size<(X.alloc (.cells #[I J 0,I J 0,I O 0,I O 0] 115)).drew.1.size:=by show X.1.size<(X.alloc (.cells #[I J 0,I J 0,I O 0,I O 0] 115)).1.size;omega
 have y:=zd A.drew
 have P:=aj _ (G.trans (A.drew.mono G.size))
 have M:=aj _ G.drew
 clear aj
 have au:=(G.block s ar).trans (ud ah)
 have z0:X.cell? ⟨s,0,K⟩=E (.pointer (E ⟨x,0,K⟩)):=by unfold zD at au;rw[xd au];rfl
 obtain⟨-,-,z2,z3,z4,-⟩:=zc y0
 have W:s<X.1.size:=by omega
 have q:w.1.size<X.1.size:=by omega
 have Y0:=zd y0
 have Y1:=zd y1
 have Y3:=zd a7
 have ag:=zd G
 have YZ:=zd yz
 have b5:¬s=X.1.size:=by omega
 have ay:¬w.1.size=X.1.size:=by omega
 clear y0 y1 y2 G yz au a7 av A
 go_region_held3 (fun w'=>w'.cell? ⟨s,0,K⟩=E (.pointer (E ⟨x,0,K⟩))/\w'.cell? ⟨w.1.size,2,K⟩=E (I J o.a)/\w'.cell? ⟨w.1.size,3,K⟩=E (I J o.b)/\w'.cell? ⟨w.1.size,4,K⟩=E (I J o.c)) (first|go_keep|exact⟨(qW (by assumption) (by assumption) _ _ _ _).trans (by assumption),(qW (by assumption) (by assumption) _ _ _ _).trans (by assumption),(qW (by assumption) (by assumption) _ _ _ _).trans (by assumption),(qW (by assumption) (by assumption) _ _ _ _).trans (by assumption)⟩) (first
  |(go_at_call 57;refine(ud P).mono ?_;rintro e V ⟨rfl,i⟩;have hz:=(i.block X.1.size a8).trans (ud Y3);have f:U X.1.size X V:=(ud y).trans (i.mono (ud y).size);clear i;have aM:s<V.1.size:=Q W f.size;have a4:w.1.size<V.1.size:=Q q f.size;have v0:=(f.cell (p:=⟨s,0,K⟩) W).trans z0;have v2:=(f.cell (p:=⟨w.1.size,2,K⟩) q).trans z2;have v3:=(f.cell (p:=⟨w.1.size,3,K⟩) q).trans z3;have v4:=(f.cell (p:=⟨w.1.size,4,K⟩) q).trans z4;obtain⟨n0,n1,n2,n3,-⟩:=zc hz;have nf:=fun j=>zH hz j;have HZ:=zd hz;have n:=zd f;clear f hz)
  |(go_at_call 57;refine(ud M).mono ?_;rintro e V ⟨rfl,i⟩;have f:U X.1.size X V:=⟨i.os,i.tape,i.output,i.size,i.block⟩;clear i;have aM:s<V.1.size:=Q W f.size;have a4:w.1.size<V.1.size:=Q q f.size;have v0:=(f.cell (p:=⟨s,0,K⟩) W).trans z0;have v2:=(f.cell (p:=⟨w.1.size,2,K⟩) q).trans z2;have v3:=(f.cell (p:=⟨w.1.size,3,K⟩) q).trans z3;have v4:=(f.cell (p:=⟨w.1.size,4,K⟩) q).trans z4;have b4:¬s=V.1.size:=(by have:=f.size;omega);have ax:¬w.1.size=V.1.size:=(by have:=f.size;omega);have n:=zd f;clear f))
 all_goals(first
  |(have m:=AQq.ahead (Q1:=Q1) (Q2:=Q2) (Q3:=Q3) (Q4:=Q4) (ud ag) (ud YZ) (ud Y0) (ud Y1) (ud n) (ud HZ);clear n0 n1 n2 n3 nf HZ;generalize((((V.setCell ⟨X.1.size,0,K⟩ (I J Q1)).setCell ⟨X.1.size,1,K⟩ (I J Q2)).setCell ⟨X.1.size,2,K⟩ (I O Q3)).setCell ⟨X.1.size,3,K⟩ (I O Q4))=Y at m ⊢;generalize X.1.size=z at m ⊢)
  |(have m:=AQq.behind (Q1:=Q1) (Q2:=Q2) (Q3:=Q3) (Q4:=Q4) (ud ag) (ud YZ) (ud Y0) (ud Y1) (ud n);clear b4 ax;generalize(V.alloc (.cells #[I J Q1,I J Q2,I O Q3,I O Q4] 115))=Y at m ⊢;generalize V.1.size=z at m ⊢))
 all_goals
  clear v0 v2 v3 v4 aM a4 n z0 z2 z3 z4 W q Y0 Y1 Y3 ag YZ y P M a8 b5 ay
  have b8:=zb m.cell
  have b6:=zb m.res
  have aJ:¬w.1.size+1=z:=by have:=m.low;omega
  obtain⟨a0,a1,a2,a3,-⟩:=zc m.cell
  obtain⟨b0,b1,b2,b3,-⟩:=zc m.res
  have bf:=fun j=>zH m.res j
  have HP:=zd m
  clear m
  go_wp2_with(go_at_call 135;refine(KO _ _).mono ?_;rintro e V1 ⟨rfl,aF⟩;rw[aF];clear aF)
 all_goals
  have m:=ud HP
  have ap:=zen (w:=Y) (g:=w.1.size+1) (I J Q1) (I J Q2) (I O Q3) (I O Q4)
  have aO:=zhZ m.res (I J Q1) (I J Q2) (I O Q3) (I O Q4)
  have aL:=ap.heap m.op (by omega)
  have a6:U w.1.size w ((((Y.setCell ⟨w.1.size+1,0,K⟩ (I J Q1)).setCell ⟨w.1.size+1,1,K⟩ (I J Q2)).setCell ⟨w.1.size+1,2,K⟩ (I O Q3)).setCell ⟨w.1.size+1,3,K⟩ (I O Q4)):=m.below.trans (ap.below m.below.size (fun k hk=>by omega))
  have aD:=zd (JA (w:=((((Y.setCell ⟨w.1.size+1,0,K⟩ (I J Q1)).setCell ⟨w.1.size+1,1,K⟩ (I J Q2)).setCell ⟨w.1.size+1,2,K⟩ (I O Q3)).setCell ⟨w.1.size+1,3,K⟩ (I O Q4))) (by rw[<-aI];exact(a6.block s ar).trans (ud ah)) ((a6.cell (p:=⟨mb,0,K⟩) ae).trans (ud aR)) (Q ae a6.size))
  have al:=zd aO
  have an:=zd a6
  have ai:=zd aL
  clear m HP ap aO aL a6 a0 a1 a2 a3 b0 b1 b2 b3 bf b8 b6 aJ
  generalize((((Y.setCell ⟨w.1.size+1,0,K⟩ (I J Q1)).setCell ⟨w.1.size+1,1,K⟩ (I J Q2)).setCell ⟨w.1.size+1,2,K⟩ (I O Q3)).setCell ⟨w.1.size+1,3,K⟩ (I O Q4))=X8 at*
  refine(ud aD).mono ?_
  rintro e l ⟨D,b9,rfl,B,a9⟩
  have aa:=(a9.block w.1.size (zb (ud ai))).trans (ud ai)
  have a5:=(ud an).trans (a9.mono (ud an).size)
  obtain⟨q0,-,q2,q3,q4,-⟩:=zc aa
  have g0:l.cell? ⟨D,0,K⟩=E (.pointer (E ⟨r,0,K⟩)):=by rw[B.cellAt 0 (by omega)];rfl
  have H:D<l.1.size:=vY B D rfl
  have t:=zb aa
  have a7:=zr l (.cells #[I J 0,I J 0,I O 0,I O 0] 115)
  have A:U l.1.size l (l.alloc (.cells #[I J 0,I J 0,I O 0,I O 0] 115)):=(Below.refl _ _).alloc (Nat.le_refl _) _
  have av:(l.alloc (.cells #[I J 0,I J 0,I O 0,I O 0] 115)).1.size=l.1.size+1:=zG l _
  have a8:l.1.size<(l.alloc (.cells #[I J 0,I J 0,I O 0,I O 0] 115)).drew.1.size:=by show l.1.size<(l.alloc (.cells #[I J 0,I J 0,I O 0,I O 0] 115)).1.size;omega
  have P:=ak _ (a5.trans (A.drew.mono a5.size))
  have M:=ak _ a5.drew
  have aW:¬D=l.1.size:=by omega
  have ay:¬w.1.size=l.1.size:=by omega
  have y:=zd A.drew
  have Y3:=zd a7
  have aC:=zd ((a9.block (w.1.size+1) (zb (ud al))).trans (ud al))
  have az:=zd aa
  have am:=zd a5
  clear aa a5 B a9 aD ak av A a7 al an ai
  go_wp2_with fail
  refine wp_loop_rounds 2 ?_
  rw[rounds_succ]
  go_wp2_with fail
  go_region_held3 (fun w'=>w'.cell? ⟨D,0,K⟩=E (.pointer (E ⟨r,0,K⟩))/\w'.cell? ⟨w.1.size,2,K⟩=E (I J o.a)/\w'.cell? ⟨w.1.size,3,K⟩=E (I J o.b)/\w'.cell? ⟨w.1.size,4,K⟩=E (I J o.c)) (first|go_keep|exact⟨(qW (by assumption) (by assumption) _ _ _ _).trans (by assumption),(qW (by assumption) (by assumption) _ _ _ _).trans (by assumption),(qW (by assumption) (by assumption) _ _ _ _).trans (by assumption),(qW (by assumption) (by assumption) _ _ _ _).trans (by assumption)⟩) (first
   |(go_at_call 144;refine(ud P).mono ?_;rintro e V ⟨rfl,i⟩;have hz:=(i.block l.1.size a8).trans (ud Y3);have f:U l.1.size l V:=(ud y).trans (i.mono (ud y).size);clear i;have aG:D<V.1.size:=Q H f.size;have a4:w.1.size<V.1.size:=Q t f.size;have v0:=(f.cell (p:=⟨D,0,K⟩) H).trans g0;have v2:=(f.cell (p:=⟨w.1.size,2,K⟩) t).trans q2;have v3:=(f.cell (p:=⟨w.1.size,3,K⟩) t).trans q3;have v4:=(f.cell (p:=⟨w.1.size,4,K⟩) t).trans q4;obtain⟨n0,n1,n2,n3,-⟩:=zc hz;have nf:=fun j=>zH hz j;have HZ:=zd hz;have n:=zd f;clear f hz)
   |(go_at_call 144;refine(ud M).mono ?_;rintro e V ⟨rfl,i⟩;have f:U l.1.size l V:=⟨i.os,i.tape,i.output,i.size,i.block⟩;clear i;have aG:D<V.1.size:=Q H f.size;have a4:w.1.size<V.1.size:=Q t f.size;have v0:=(f.cell (p:=⟨D,0,K⟩) H).trans g0;have v2:=(f.cell (p:=⟨w.1.size,2,K⟩) t).trans q2;have v3:=(f.cell (p:=⟨w.1.size,3,K⟩) t).trans q3;have v4:=(f.cell (p:=⟨w.1.size,4,K⟩) t).trans q4;have aV:¬D=V.1.size:=(by have:=f.size;omega);have ax:¬w.1.size=V.1.size:=(by have:=f.size;omega);have n:=zd f;clear f))
 all_goals(first
  |(have m:=ARq.ahead (Q1:=Q1) (Q2:=Q2) (Q3:=Q3) (Q4:=Q4) (ud n) (ud HZ);clear n0 n1 n2 n3 nf HZ;generalize((((V.setCell ⟨l.1.size,0,K⟩ (I J Q1)).setCell ⟨l.1.size,1,K⟩ (I J Q2)).setCell ⟨l.1.size,2,K⟩ (I O Q3)).setCell ⟨l.1.size,3,K⟩ (I O Q4))=U1 at m ⊢;obtain⟨F,S⟩:=m;generalize b7:l.1.size=z2 at S ⊢;clear b7)
  |(have m:=ARq.behind (Q1:=Q1) (Q2:=Q2) (Q3:=Q3) (Q4:=Q4) (ud n);clear aV ax;generalize(V.alloc (.cells #[I J Q1,I J Q2,I O Q3,I O Q4] 115))=U1 at m ⊢;obtain⟨F,S⟩:=m;generalize V.1.size=z2 at S ⊢))
 all_goals
  clear v0 v2 v3 v4 aG a4 n q2 q3 q4 y P M a8 aW ay Y3
  have g2:U1.cell? ⟨D,0,K⟩=E (.pointer (E ⟨r,0,K⟩)):=(F.cell (p:=⟨D,0,K⟩) H).trans g0
  have aN:=(F.block (w.1.size+1) (zb (ud aC))).trans (ud aC)
  obtain⟨s0,s1,s2,s3,-⟩:=zc aN
  obtain⟨a0,a1,a2,a3,-⟩:=zc S
  have aX:0<1:=by decide
  have aY:0+1<=maxLen:=by simp[maxLen]
  have aZ:(0+1)*8<=140737488355328:=by omega
  have be:D<U1.1.size:=Q H F.size
  have af:=zd F
  clear aN F S
  go_wp2_with(first|(at_builtin;refine zJ rfl _ _ 135 rfl 0 138 _ 1 8 Tryz.underlying135 Tryz.infoRefP rfl (by decide) (.slice K 0 0) 0 [] rfl (World.ownsRow_nil _ _ _ _) ⟨U1.1.size,0,K⟩ 1 1 [.pointer (E ⟨r,0,K⟩)] rfl rfl (World.news_of_block (cs:=#[.pointer (E ⟨r,0,K⟩)]) (zr U1 _)) (by intro u hu;simp at hu;subst hu;rfl) aX aY aZ (Nat.zero_le _) ?_;intro g aE W4 T aq C ab ba;have aS:=zd T;have aQ:=zd C;have aP:=zd ab;clear T aq C ab)|go_in)
  have ao:U U1.1.size U1 (U1.alloc (.cells #[.pointer (E ⟨r,0,K⟩)] 138)):=(Below.refl _ _).alloc (Nat.le_refl _) _
  have ac:U U1.1.size U1 W4:=ao.grown (show(U1.alloc (.cells #[.pointer (E ⟨r,0,K⟩)] 138)).grownBy W4 K from ud aQ) ao.size (fun k e=>by cases e)
  have R:U l.1.size l W4:=(ud af).trans (ac.mono (ud af).size)
  have aw:U w.1.size w W4:=(ud am).trans (R.mono (ud am).size)
  have L:=(aw.block s ar).trans (ud ah)
  have aK:=(R.block w.1.size (zb (ud az))).trans (ud az)
  have k9:W4.cell? ⟨s,9,K⟩=E mv:=by have hq:=L;unfold zD at hq;rw[xd hq];rfl
  have bg:W4.cell? ⟨s,13,K⟩=E (.bool false):=by have hq:=L;unfold zD at hq;rw[xd hq];rfl
  have bh:∀j,W4.frozen? ⟨s,j,K⟩=false:=fun j=>by have hq:=L;unfold zD at hq;exact zH hq j
  obtain⟨k0,-⟩:=zc aK
  have bb:=zb L
  have bd:=zd L
  have aT:=zd aw
  clear ao ac R aw L aK s0 s1 s2 s3 a0 a1 a2 a3 g0 g2 q0
  rw[rounds_succ]
  go_wp2_with fail
  go_ret
  have aU:w.1.size<=g:=by
   rcases ud aP with h|h
   ·cases h
   ·rw[h]
    have z1:=(ud af).size;have z2:=(ud am).size;rw[zG];omega
  exact⟨rfl,_,g,aE,rfl,ud aT,ud aS,aU⟩
end Go.Proofs.YtndhpgciopcncaaGreatDoor
