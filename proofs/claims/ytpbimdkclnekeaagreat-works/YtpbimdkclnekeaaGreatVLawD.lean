import Derived.Test.YtpbimdkclnekeaaGreatVLawC
open Go.Value renaming int → I
open Go.IntKind renaming i64 → J
open Go.IntKind (i32)
set_option linter.unusedVariables false
set_option maxRecDepth 8000
set_option maxHeartbeats 2000000
namespace Go.Proofs.YtpbimdkclnekeaaGreat
open Go.RowKit
theorem zlI{w:World}{wb:Nat}(o:Ops)(R:World->Prop)
  (g:∀h,Below w.1.size w h->Calls Tryz.prog 20 #[.pointer (some ⟨wb,0,none⟩),.agg #[I J o.fs,I J o.fe,I J o.fd,I J o.fw,I J o.fk,I J o.fq,.slice o.fa o.fn o.fc],I J (-1)] h fun e w'=>e=.returned (.bool true)/\R w'):
  Calls Tryz.prog 21 #[.pointer (some ⟨wb,0,none⟩),.agg #[I J 1,I J o.on,I J (-1),I J o.b,I J o.c,I i32 o.v,I J o.te,I J o.tn,I J o.fs,I J o.fe,I J o.fd,I J o.fw,I J o.fk,I J o.fq,.slice o.fa o.fn o.fc]] w fun e w'=>e=.returned (.bool true)/\R w':=by
 have a:Below w.1.size w (w.alloc (.cells #[I J 1,I J o.on,I J (-1),I J o.b,I J o.c,I i32 o.v,I J o.te,I J o.tn,I J o.fs,I J o.fe,I J o.fd,I J o.fw,I J o.fk,I J o.fq,.slice o.fa o.fn o.fc] 68)):=(Below.refl _ _).alloc (Nat.le_refl _) _
 have d:=zo w (.cells #[I J 1,I J o.on,I J (-1),I J o.b,I J o.c,I i32 o.v,I J o.te,I J o.tn,I J o.fs,I J o.fe,I J o.fd,I J o.fw,I J o.fk,I J o.fq,.slice o.fa o.fn o.fc] 68)
 have f:=ze (g _ a)
 obtain⟨p,-,q,-,-,-,-,-,r,s,i,j,k,l,m,-⟩:=zc d
 clear d a g
 go_enter Tryz.func21,Tryz.ntmps21
 go_wp2_with fail
 generalize(w.alloc (.cells #[I J 1,I J o.on,I J (-1),I J o.b,I J o.c,I i32 o.v,I J o.te,I J o.tn,I J o.fs,I J o.fe,I J o.fd,I J o.fw,I J o.fk,I J o.fq,.slice o.fa o.fn o.fc] 68))=X at*
 go_wp2_with(first|(go_at_call 20;refine(ud f).mono ?_;rintro e w' ⟨rfl,n⟩)|fail)
 go_ret
 exact⟨rfl,n⟩
end Go.Proofs.YtpbimdkclnekeaaGreat
