import Derived.Test.YtndhpgciopcncaaGreatDoorHDisk2
set_option linter.unusedVariables false
set_option maxHeartbeats 1000000
open Go.Proofs.Tryz
namespace Go.Proofs.YtndhpgciopcncaaGreatDoor
open Go.RowKit
variable {nm:ByteArray} {S:DS}
theorem zx.drew{T e:TypeId}{B:Nat}{w:World}{p:Nat}{fs:Value}(h:zx T e B w p S fs):zx T e B w.drew p S fs:=h.later ((Below.refl _ _).drew)
def xM(S:DS)(name:ByteArray):DS:=if zj S then zm S else zjO (zm S) name
theorem xX{i:Nat}{f:FS}(c:zj S=false)(a:xL S.files nm=some i)(b:S.files[i]?=some f):xM S nm={zm S with files:=(zm S).files.set i {f with safe:=f.data.size}}:=by
 simp[xM,c,zjO,zr,a,b]
theorem X8(b:zj S=false)(a:xL S.files nm=none):xM S nm=zm S:=by
 simp[xM,b,zjO,zr,a]
theorem yi(a:zj S=true):xM S nm=zm S:=by simp[xM,a]
theorem zcr(B:Nat)(p:Nat)(S:DS)(fs:Value)(nm:ByteArray)(w:World)(N:Nat)(l:N<=1099511627776)(i:DOk S N)(k:zj S=true)(h:zx 111 113 B w p S fs):
  Calls prog 127 #[(O p),.string nm] w fun e w'=>e=.returned (.bool false)/\zx 111 113 B w' p (zm S) fs/\zi (foot p fs) w w':=by
 obtain⟨f,g,hn,b⟩:=i;have a:=ze (yD B p S fs w ⟨f,g⟩ h);rw[k]at a;have c:(zm S).files.length<=N:=by rw[zr];exact hn
 clear k b;go_enter func127,ntmps127;go_wp2_with(first
  |(go_at_call 197;refine(ud a).mono ?_;rintro e w1 ⟨rfl,j,d⟩)
  |(go_at_call 198;refine(yW B p (zm S) _ nm _ N l c j).mono ?_;rintro e w2 ⟨rfl,rfl⟩))
 go_ret;exact⟨rfl,j,d⟩
theorem zjM(B:Nat)(p:Nat)(S:DS)(fs:Value)(nm:ByteArray)(w:World)(N:Nat)(n:N<=1099511627776)(k:DOk S N)(m:zj S=false)(d:xL S.files nm=none)(h:zx 111 113 B w p S fs):
  Calls prog 127 #[(O p),.string nm] w fun e w'=>e=.returned (.bool true)/\zx 111 113 B w' p (zm S) fs/\zi (foot p fs) w w':=by
 obtain⟨i,j,hn,b⟩:=k;have a:=ze (yD B p S fs w ⟨i,j⟩ h);rw[m]at a;have f:Hid (qN (zm S).files nm= -1):=by show _=_;simp[qN,zr,d]
 have c:(zm S).files.length<=N:=by rw[zr];exact hn
 clear m d b;go_enter func127,ntmps127;go_wp2_with(first
  |(go_at_call 197;refine(ud a).mono ?_;rintro e w1 ⟨rfl,l,g⟩)
  |(go_at_call 198;refine(yW B p (zm S) _ nm _ N n c l).mono ?_;rintro e w2 ⟨rfl,rfl⟩;rw[ud f]))
 go_ret;exact⟨rfl,l,g⟩
theorem zjN(B:Nat)(p:Nat)(S:DS)(fs:Value)(nm:ByteArray)(w:World)(N:Nat)(v:N<=1099511627776)(q:DOk S N)(t:zj S=false)(i:Nat)(f:FS)(j:xL S.files nm=some i)(s:S.files[i]?=some f)(h:zx 111 113 B w p S fs):
  Calls prog 127 #[(O p),.string nm] w fun e w'=>e=.returned (.bool true)/\zx 111 113 B w' p {zm S with files:=(zm S).files.set i {f with safe:=f.data.size}} fs/\zi (foot p fs) w w':=by
 obtain⟨n,o,hn,b⟩:=q;have a:=ze (yD B p S fs w ⟨n,o⟩ h);rw[t]at a;have A:i<S.files.length:=(List.getElem?_eq_some_iff.1 s).1;have C:(i:Int)<S.files.length:=by omega
 have z:(0:Int)<=(i:Int):=by omega
 have l:Hid (qN (zm S).files nm=i):=by show _=_;simp[qN,zr,j]
 have c:(zm S).files[i]?=some f:=by rw[zr];exact s
 have r:=ze c;have d:(zm S).files.length<=N:=by rw[zr];exact hn
 have u:Hid (S.files.length=(zm S).files.length):=by show _=_;rw[zr]
 obtain⟨g,cap,rfl,-⟩:=h.files (by omega);clear t j c b;go_enter func127,ntmps127;go_wp2_with(first
  |(go_at_call 197;refine(ud a).mono ?_;rintro e w1 ⟨rfl,k,m⟩;have E:=k.c0;obtain⟨F,G,H,I⟩:=k.at (ud r))
  |(go_at_call 198;refine(yW B p (zm S) _ nm _ N v d k).mono ?_;rintro e w2 ⟨rfl,rfl⟩;rw[ud l]))
 go_region
 go_wp2;go_ret;obtain⟨x,D⟩:=k.setSafe (by decide) (by rw[ud u]) (ud r) f.data.size;exact⟨rfl,x.drew,m.trans D.drew (fun _ _ y=>y)⟩
theorem zay(B:Nat)(p:Nat)(S:DS)(fs:Value)(nm:ByteArray)(w:World)(N:Nat)(d:N<=1099511627776)(b:DOk S N)(h:zx 111 113 B w p S fs):
  Calls prog 127 #[(O p),.string nm] w fun e w'=>e=.returned (.bool (!zj S))/\zx 111 113 B w' p (xM S nm) fs/\zi (foot p fs) w w':=by
 cases c:zj S
 ·cases a:xL S.files nm with
  |none=>rw[X8 c a];exact zjM B p S fs nm w N d b c a h
  |some i=>
   obtain⟨f,g,_,_⟩:=ku a;rw[xX c a g];exact zjN B p S fs nm w N d b c i f a g h
 ·rw[yi c];exact zcr B p S fs nm w N d b c h
end Go.Proofs.YtndhpgciopcncaaGreatDoor
