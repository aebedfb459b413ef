import Derived.Test.YtndhpgciopcncaaGreatDoorYDisk6
open Go.Value (int)
open Go.IntKind (i64)
set_option linter.unusedVariables false
set_option maxHeartbeats 400000
open Go.Proofs.Tryz
namespace Go.Proofs.YtndhpgciopcncaaGreatDoor
open Go.RowKit
def ZE:DS:=⟨[],-1,false⟩
theorem zeD(B:Nat)(w:World)(a:B<=w.1.size):
  Calls prog 38 #[] w fun e w'=>e=.returned (.pointer (some ⟨w.1.size,0,none⟩))/\zv 111 113 B w' w.1.size ZE (.slice none 0 0)/\Below w.1.size w w'/\w'.1.size=w.1.size+1:=by
 go_enter func38,ntmps38
 go_wp2
 go_ret
 exact⟨rfl,⟨heap_alloc_last _ _,a,KS _ _ _ _⟩,(Below.refl _ _).alloc (Nat.le_refl _) _,vn _ _⟩
theorem Yz{S:DS}{n:Int}(h:zi S=true):XH S n=S:=by simp[XH,h]
theorem zds{S:DS}{n:Int}(h:zi S=false)(hn:n<0):XH S n={S with left:= -1}:=by simp[XH,h,hn]
theorem zdt{S:DS}{n:Int}(h:zi S=false)(hn:¬n<0):XH S n={S with left:=n}:=by simp[XH,h,hn]
theorem zbV(B:Nat)(p:Nat)(S:DS)(fs:Value)(n:Int)(w:World)(b:zv 111 113 B w p S fs):
  Calls prog 28 #[.pointer (some ⟨p,0,none⟩),int i64 n] w fun e w'=>e=.returned (.tuple #[])/\zv 111 113 B w' p (XH S n) fs/\zk (foot p fs) w w':=by
 cases c:zi S
 ·by_cases hn:n<0
  ·rw[zds c hn]
   by_cases i:n= -1
   ·subst i
    have a:=zd (qP B p S fs w b)
    rw[c]at a
    clear c
    go_enter func28,ntmps28
    go_wp2_with(go_at_call 32;refine(ud a).mono ?_;rintro e h ⟨rfl,rfl⟩;have d:=b.c1;have f:=b.free 1)
    go_end0
    exact⟨rfl,b.setLeft (by decide) (-1)⟩
   ·have g:¬ -1<=n:=by omega
    have a:=zd (qP B p S fs w b)
    rw[c]at a
    clear c
    go_enter func28,ntmps28
    go_wp2_with(go_at_call 32;refine(ud a).mono ?_;rintro e h ⟨rfl,rfl⟩;have d:=b.c1;have f:=b.free 1)
    go_end0
    try rw[show(max n (-1):Int)= -1 from by omega]
    exact⟨rfl,b.setLeft (by decide) (-1)⟩
  ·rw[zdt c hn]
   have g: -1<=n:=by omega
   have a:=zd (qP B p S fs w b)
   rw[c]at a
   clear c
   go_enter func28,ntmps28
   go_wp2_with(go_at_call 32;refine(ud a).mono ?_;rintro e h ⟨rfl,rfl⟩;have d:=b.c1;have f:=b.free 1)
   go_end0
   try rw[show(max n (-1):Int)=n from by omega]
   exact⟨rfl,b.setLeft (by decide) n⟩
 ·rw[Yz c]
  have a:=zd (qP B p S fs w b)
  rw[c]at a
  clear c
  go_enter func28,ntmps28
  go_wp2_with(go_at_call 32;refine(ud a).mono ?_;rintro e h ⟨rfl,rfl⟩;have d:=b.c1;have f:=b.free 1)
  go_end0
  exact⟨rfl,b,zk.refl _ _⟩
theorem zbh{a b:ByteArray}(h:a=b):Ending.returned (.string a)=.returned (.string b):=by rw[h]
def yN(S:DS)(a:ByteArray):ByteArray:=match xv S.files a with|some i=>(match S.files[i]? with|some f=>f.data|none=>⟨#[]⟩)|none=>⟨#[]⟩
theorem KZ(B:Nat)(p:Nat)(S:DS)(fs:Value)(c:ByteArray)(w:World)(N:Nat)(k:N<=1099511627776)(hn:S.files.length<=N)(h:zv 111 113 B w p S fs):
  Calls prog 128 #[.pointer (some ⟨p,0,none⟩),.string c] w fun e w'=>e=.returned (.string (yN S c))/\w'=w:=by
 have b:=zd (qZ B p S fs c w N k hn h)
 cases a:xv S.files c with
 |none=>
  have d:xY S.files c= -1:=by simp[xY,a]
  have HR:Hid (yN S c=⟨#[]⟩):=by show _=_;simp[yN,a]
  rw[d]at b
  clear a d
  go_enter func128,ntmps128
  go_wp2_with(go_at_call 198;refine(ud b).mono ?_;rintro e o ⟨rfl,rfl⟩)
  go_ret
  exact⟨zbh (ud HR).symm,rfl⟩
 |some i=>
  obtain⟨f,j,m,_⟩:=yw a
  have d:xY S.files c=i:=by simp[xY,a]
  have HR:Hid (yN S c=f.data):=by show _=_;simp[yN,a,j]
  rw[d]at b
  have n:(i:Int)<S.files.length:=by omega
  have l:¬(i:Int)<0:=by omega
  obtain⟨g,cap,rfl,-⟩:=h.files (by omega)
  have r:=h.c0
  obtain⟨s,t,u,q⟩:=h.at j
  clear a d j q
  go_enter func128,ntmps128
  go_wp2_with(go_at_call 198;refine(ud b).mono ?_;rintro e o ⟨rfl,rfl⟩)
  go_ret
  exact⟨zbh (ud HR).symm,rfl⟩
theorem ziu(B:Nat)(p:Nat)(S:DS)(fs:Value)(c:ByteArray)(w:World)(N:Nat)(f:N<=1099511627776)(hn:S.files.length<=N)(h:zv 111 113 B w p S fs):
  Calls prog 205 #[.pointer (some ⟨p,0,none⟩),.string c] w fun e w'=>e=.returned (.bool (xv S.files c).isSome)/\w'=w:=by
 have a:=zd (qZ B p S fs c w N f hn h)
 cases b:xv S.files c with
 |none=>
  have d:xY S.files c= -1:=by simp[xY,b]
  rw[d]at a
  clear b d
  go_enter func205,ntmps205
  go_wp2_with(go_at_call 198;refine(ud a).mono ?_;rintro e j ⟨rfl,rfl⟩)
  go_ret
  exact⟨rfl,rfl⟩
 |some i=>
  have d:xY S.files c=i:=by simp[xY,b]
  have g:(0:Int)<=(i:Int):=by omega
  rw[d]at a
  clear b d
  go_enter func205,ntmps205
  go_wp2_with(go_at_call 198;refine(ud a).mono ?_;rintro e j ⟨rfl,rfl⟩)
  go_ret
  exact⟨kt (by simp),rfl⟩
end Go.Proofs.YtndhpgciopcncaaGreatDoor
