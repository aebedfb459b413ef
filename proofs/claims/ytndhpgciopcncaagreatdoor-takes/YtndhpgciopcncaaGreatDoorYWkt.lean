import Derived.Test.YtndhpgciopcncaaGreatDoorYFits0
open Go.Value renaming int → I
open Go.IntKind renaming i64 → J
open Option renaming none → K
open Go.IntKind (i32)
set_option linter.unusedVariables false
set_option maxRecDepth 8000
set_option maxHeartbeats 2000000
open Go.Proofs.Tryz
namespace Go.Proofs.YtndhpgciopcncaaGreatDoor
open Go.RowKit
def zD(x d:Nat)(c:Cf)(ct a b:Value)(ep:Int):Obj:=.cells #[.pointer (some ⟨x,0,K⟩),.pointer (some ⟨d,0,K⟩),I J c.s,I J c.le,I J c.la,I J c.wi,I J c.ke,I J c.qu,ct,a,.slice K 0 0,b,I J ep,.bool false,.bool false] 137 (0,0)
theorem zfN{w:World}{g x d:Nat}{ct l h:Value}{j:Int}(i:Cf)(f:w.1[g]?=some (zD x d i ct l h j))(o:Ops)(n:¬o.b=0):
  Calls prog 139 #[.pointer (some ⟨g,0,K⟩),.agg #[I J o.kd,I J o.on,I J o.a,I J o.b,I J o.c,I i32 o.v,I J o.te,I J o.tn,I J o.fs,I J o.fe,I J o.fb,I J o.fw,I J o.fk,I J o.fq,.slice o.fa o.fn o.fc]] w fun e w'=>e=.returned (.agg #[I J o.te,I J o.tn])/\Below w.1.size w w':=by
 have m:w.cell? ⟨g,11,K⟩=some h:=by unfold zD at f;rw[xd f];rfl
 have k:=zb f
 clear f
 go_enter func139,ntmps139
 go_wp2_with fail
 all_goals
  refine bodyPost_ret (v:=.agg #[I J o.te,I J o.tn]) (results_cell_row results139 _ _ (w.1.size+1) _ _ _ _ rfl (box2 w _ _).2.1 underlying49 rfl (by kernel_rfl)) rfl ?_
  exact⟨rfl,(box2 w _ _).2.2.1⟩
theorem zdy{w:World}{g x d cap:Nat}{a:Option Addr}{ct k:Value}{i:Int}(h:Cf)(f:w.1[g]?=some (zD x d h ct k (.slice a 0 cap) i))(o:Ops):
  Calls prog 139 #[.pointer (some ⟨g,0,K⟩),.agg #[I J o.kd,I J o.on,I J o.a,I J o.b,I J o.c,I i32 o.v,I J o.te,I J o.tn,I J o.fs,I J o.fe,I J o.fb,I J o.fw,I J o.fk,I J o.fq,.slice o.fa o.fn o.fc]] w fun e w'=>e=.returned (.agg #[I J o.te,I J o.tn])/\Below w.1.size w w':=by
 have l:w.cell? ⟨g,11,K⟩=some (.slice a 0 cap):=by unfold zD at f;rw[xd f];rfl
 have j:=zb f
 clear f
 go_enter func139,ntmps139
 go_wp2_with fail
 all_goals
  refine bodyPost_ret (v:=.agg #[I J o.te,I J o.tn]) (results_cell_row results139 _ _ (w.1.size+1) _ _ _ _ rfl (box2 w _ _).2.1 underlying49 rfl (by kernel_rfl)) rfl ?_
  exact⟨rfl,(box2 w _ _).2.2.1⟩
theorem zdz{w:World}{m x d g n cap:Nat}{ct Q:Value}{H te tn:Int}(E:Cf)(u:w.1[m]?=some (zD x d E ct Q (.slice (some ⟨g,0,K⟩) n cap) H))(o:Ops)(C:o.b=0)(D:g<w.1.size){i j:Nat}(hj:(n:Int)-1-(i:Int)=(j:Int))(O:j<n)(hn:n<=1099511627776)(l:∀w:World,Calls prog 79 #[I J o.a,I J n] w fun e w'=>e=.returned (I J i)/\w'=w)(A:w.cell? ⟨g,j*2,K⟩=some (I J te))(B:w.cell? ⟨g,j*2+1,K⟩=some (I J tn)):
  Calls prog 139 #[.pointer (some ⟨m,0,K⟩),.agg #[I J o.kd,I J o.on,I J o.a,I J o.b,I J o.c,I i32 o.v,I J o.te,I J o.tn,I J o.fs,I J o.fe,I J o.fb,I J o.fw,I J o.fk,I J o.fq,.slice o.fa o.fn o.fc]] w fun e w'=>e=.returned (.agg #[I J te,I J tn])/\Below w.1.size w w':=by
 obtain⟨q,z,f,T⟩:=box2 w (.cells #[I J o.kd,I J o.on,I J o.a,I J o.b,I J o.c,I i32 o.v,I J o.te,I J o.tn,I J o.fs,I J o.fe,I J o.fb,I J o.fw,I J o.fk,I J o.fq,.slice o.fa o.fn o.fc] 82) (.cells #[I J 0,I J 0] 49)
 have y:=zb u
 have h:=(f.block m y).trans u
 have S:((w.alloc (.cells #[I J o.kd,I J o.on,I J o.a,I J o.b,I J o.c,I i32 o.v,I J o.te,I J o.tn,I J o.fs,I J o.fe,I J o.fb,I J o.fw,I J o.fk,I J o.fq,.slice o.fa o.fn o.fc] 82)).alloc (.cells #[I J 0,I J 0] 49)).cell? ⟨m,11,K⟩=some (.slice (some ⟨g,0,K⟩) n cap):=by unfold zD at h;rw[xd h];rfl
 obtain⟨-,-,U,-⟩:=zc q
 have V:((w.alloc (.cells #[I J o.kd,I J o.on,I J o.a,I J o.b,I J o.c,I i32 o.v,I J o.te,I J o.tn,I J o.fs,I J o.fe,I J o.fb,I J o.fw,I J o.fk,I J o.fq,.slice o.fa o.fn o.fc] 82)).alloc (.cells #[I J 0,I J 0] 49)).cell? ⟨w.1.size,3,K⟩=some (I J 0):=by rw[xd q,C];rfl
 have Y:=(f.cell (p:=⟨g,j*2,K⟩) D).trans A
 have Z:=(f.cell (p:=⟨g,j*2+1,K⟩) D).trans B
 have s:=fun W=>zd (l W)
 have P:¬(n:Int)=0:=by omega
 have N:(j:Int)<(n:Int):=by omega
 have M:0<=(n:Int)-1-(i:Int):=by omega
 have t:=zd z
 have r:=zd f
 have q1:m<w.1.size+2:=by omega
 have q2:g<w.1.size+2:=by omega
 have q3:w.1.size<w.1.size+2:=by omega
 clear u h l A B q z f T C
 go_enter func139,ntmps139
 generalize o.b=R at*
 go_wp2_with fail
 generalize((w.alloc (.cells #[I J o.kd,I J o.on,I J o.a,I J R,I J o.c,I i32 o.v,I J o.te,I J o.tn,I J o.fs,I J o.fe,I J o.fb,I J o.fw,I J o.fk,I J o.fq,.slice o.fa o.fn o.fc] 82)).alloc (.cells #[I J 0,I J 0] 49))=X at*
 obtain⟨q,z,-⟩:=zc (ud t)
 have yf:=fun k=>zH (ud t) k
 refine Y7 21 (by kernel_rfl) (by kernel_rfl) ?_
 simp only[List.take_succ_cons,List.take_zero,List.drop_succ_cons,List.drop_zero]
 iterate 17 still_step
 still_call (ud (s _))
 still_step
 have F:IntKind.i64.wrap ((n:Int)-1)=(n:Int)-1:=by rw[IntKind.wrap_i64];omega
 have G:IntKind.i64.wrap ((n:Int)-1-(i:Int))=(j:Int):=by rw[IntKind.wrap_i64];omega
 rw[F,G]
 repeat still_step
 refine wpStill_nil ?_
 go_wp2_with fail
 have L:(((X.setCell ⟨w.1.size+1,0,K⟩ (I J te)).setCell ⟨w.1.size+1,1,K⟩ (I J tn)).drew).1[w.1.size+1]?=some (.cells #[I J te,I J tn] 49 (0,0)):=xi (i:=1) (xi (i:=0) (ud t) _) _
 refine bodyPost_ret (v:=.agg #[I J te,I J tn]) (results_cell_row results139 _ _ (w.1.size+1) _ _ _ _ rfl L underlying49 rfl (by kernel_rfl)) rfl ?_
 exact⟨rfl,(((ud r).setCell (p:=⟨w.1.size+1,0,K⟩) (show w.1.size<=w.1.size+1 by omega) _).setCell (p:=⟨w.1.size+1,1,K⟩) (show w.1.size<=w.1.size+1 by omega) _).drew⟩
end Go.Proofs.YtndhpgciopcncaaGreatDoor
