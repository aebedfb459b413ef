import Derived.Test.YtpbimdkclnekeaaGreatVDisk3
open Go.Value (int)
open Go.IntKind (i64)
set_option linter.unusedVariables false
set_option maxHeartbeats 400000
open Go.Proofs.Tryz
namespace Go.Proofs.YtpbimdkclnekeaaGreat
open Go.RowKit
def QA:DS:=⟨[],-1,false⟩
theorem zfz(B:Nat)(w:World)(a:B<=w.1.size):
  Calls prog 25 #[] w fun e w'=>e=.returned (.pointer (some ⟨w.1.size,0,none⟩))/\zR 119 185 B w' w.1.size QA (.slice none 0 0)/\Below w.1.size w w'/\w'.1.size=w.1.size+1:=by
 go_enter func25,ntmps25
 go_wp2
 go_ret
 exact⟨rfl,⟨heap_alloc_last _ _,a,World.ownsRow_nil _ _ _ _⟩,(Below.refl _ _).alloc (Nat.le_refl _) _,(by simp)⟩
theorem YW{S:DS}{n:Int}(h:zH S=true):Qk S n=S:=by simp[Qk,h]
theorem zdZ{S:DS}{n:Int}(h:zH S=false)(hn:n<0):Qk S n={S with left:= -1}:=by simp[Qk,h,hn]
theorem zea{S:DS}{n:Int}(h:zH S=false)(hn:¬n<0):Qk S n={S with left:=n}:=by simp[Qk,h,hn]
theorem zcu(B:Nat)(p:Nat)(S:DS)(fs:Value)(n:Int)(w:World)(b:zR 119 185 B w p S fs):
  Calls prog 46 #[.pointer (some ⟨p,0,none⟩),int i64 n] w fun e w'=>e=.returned (.tuple #[])/\zR 119 185 B w' p (Qk S n) fs/\zk (foot p fs) w w':=by
 cases c:zH S
 ·by_cases hn:n<0
  ·rw[zdZ c hn]
   by_cases i:n= -1
   ·subst i
    have a:=ze (qO B p S fs w b)
    rw[c]at a
    clear c
    go_enter func46,ntmps46
    go_wp2_with(go_at_call 47;refine(ud a).mono ?_;rintro e h ⟨rfl,rfl⟩;have d:=b.c1;have f:=b.free 1)
    go_end0
    exact⟨rfl,b.setLeft (by decide) (-1)⟩
   ·have g:¬ -1<=n:=by omega
    have a:=ze (qO B p S fs w b)
    rw[c]at a
    clear c
    go_enter func46,ntmps46
    go_wp2_with(go_at_call 47;refine(ud a).mono ?_;rintro e h ⟨rfl,rfl⟩;have d:=b.c1;have f:=b.free 1)
    go_end0
    exact⟨rfl,b.setLeft (by decide) (-1)⟩
  ·rw[zea c hn]
   have g: -1<=n:=by omega
   have a:=ze (qO B p S fs w b)
   rw[c]at a
   clear c
   go_enter func46,ntmps46
   go_wp2_with(go_at_call 47;refine(ud a).mono ?_;rintro e h ⟨rfl,rfl⟩;have d:=b.c1;have f:=b.free 1)
   go_end0
   exact⟨rfl,b.setLeft (by decide) n⟩
 ·rw[YW c]
  have a:=ze (qO B p S fs w b)
  rw[c]at a
  clear c
  go_enter func46,ntmps46
  go_wp2_with(go_at_call 47;refine(ud a).mono ?_;rintro e h ⟨rfl,rfl⟩;have d:=b.c1;have f:=b.free 1)
  go_end0
  exact⟨rfl,b,zk.refl _ _⟩
theorem zbJ{a b:ByteArray}(h:a=b):Ending.returned (.string a)=.returned (.string b):=by rw[h]
def zbh(S:DS)(a:ByteArray):ByteArray:=match kE S.files a with|some i=>(match S.files[i]? with|some f=>f.data|none=>⟨#[]⟩)|none=>⟨#[]⟩
theorem zif(B:Nat)(p:Nat)(S:DS)(fs:Value)(c:ByteArray)(w:World)(N:Nat)(k:N<=1099511627776)(hn:S.files.length<=N)(h:zR 119 185 B w p S fs):
  Calls prog 123 #[.pointer (some ⟨p,0,none⟩),.string c] w fun e w'=>e=.returned (.string (zbh S c))/\w'=w:=by
 have b:=ze (jT B p S fs c w N k hn h)
 cases a:kE S.files c with
 |none=>
  have d:ki S.files c= -1:=by simp[ki,a]
  have HR:Hid (zbh S c=⟨#[]⟩):=by show _=_;simp[zbh,a]
  rw[d]at b
  clear a d
  go_enter func123,ntmps123
  go_wp2_with(go_at_call 174;refine(ud b).mono ?_;rintro e o ⟨rfl,rfl⟩)
  go_ret
  exact⟨zbJ (ud HR).symm,rfl⟩
 |some i=>
  obtain⟨f,j,m,_⟩:=XO a
  have d:ki S.files c=i:=by simp[ki,a]
  have HR:Hid (zbh S c=f.data):=by show _=_;simp[zbh,a,j]
  rw[d]at b
  have n:(i:Int)<S.files.length:=by omega
  have l:¬(i:Int)<0:=by omega
  obtain⟨g,cap,rfl,-⟩:=h.files (by omega)
  have r:=h.c0
  obtain⟨s,t,u,q⟩:=h.at j
  clear a d j q
  go_enter func123,ntmps123
  go_wp2_with(go_at_call 174;refine(ud b).mono ?_;rintro e o ⟨rfl,rfl⟩)
  go_ret
  exact⟨zbJ (ud HR).symm,rfl⟩
end Go.Proofs.YtpbimdkclnekeaaGreat
