import Derived.Test.YtndhpgciopcncaaGreatDoorPDisk2
set_option linter.unusedVariables false
set_option maxHeartbeats 1000000
open Go.Proofs.Tryz
namespace Go.Proofs.YtndhpgciopcncaaGreatDoor
open Go.RowKit
theorem zw.drew{T e:TypeId}{B:Nat}{w:World}{p:Nat}{S:DS}{fs:Value}(h:zw T e B w p S fs):zw T e B w.drew p S fs:=h.later ((Below.refl _ _).drew)
def xI(S:DS)(name:ByteArray):DS:=if zo S then zm S else zjF (zm S) name
theorem qs{S:DS}{b:ByteArray}{i:Nat}{f:FS}(d:zo S=false)(a:xN S.files b=some i)(c:S.files[i]?=some f):xI S b={zm S with files:=(zm S).files.set i {f with safe:=f.data.size}}:=by
 simp[xI,d,zjF,zq,a,c]
theorem ZP{S:DS}{b:ByteArray}(c:zo S=false)(a:xN S.files b=none):xI S b=zm S:=by
 simp[xI,c,zjF,zq,a]
theorem jd{S:DS}{b:ByteArray}(a:zo S=true):xI S b=zm S:=by simp[xI,a]
theorem zbL(B:Nat)(p:Nat)(S:DS)(fs:Value)(l:ByteArray)(w:World)(N:Nat)(m:N<=1099511627776)(i:DOk S N)(k:zo S=true)(h:zw 111 113 B w p S fs):
  Calls prog 127 #[(O p),.string l] w fun e w'=>e=.returned (.bool false)/\zw 111 113 B w' p (zm S) fs/\zh (foot p fs) w w':=by
 obtain⟨f,g,hn,b⟩:=i
 have a:=ze (yr B p S fs w ⟨f,g⟩ h)
 rw[k]at a
 have c:(zm S).files.length<=N:=by rw[zq];exact hn
 clear k b
 go_enter func127,ntmps127
 go_wp2_with(first
  |(go_at_call 197;refine(ud a).mono ?_;rintro e n ⟨rfl,j,d⟩)
  |(go_at_call 198;refine(yN B p (zm S) _ l _ N m c j).mono ?_;rintro e o ⟨rfl,rfl⟩))
 go_ret
 exact⟨rfl,j,d⟩
theorem zjD(B:Nat)(p:Nat)(S:DS)(fs:Value)(f:ByteArray)(w:World)(N:Nat)(o:N<=1099511627776)(l:DOk S N)(n:zo S=false)(d:xN S.files f=none)(h:zw 111 113 B w p S fs):
  Calls prog 127 #[(O p),.string f] w fun e w'=>e=.returned (.bool true)/\zw 111 113 B w' p (zm S) fs/\zh (foot p fs) w w':=by
 obtain⟨j,k,hn,b⟩:=l
 have a:=ze (yr B p S fs w ⟨j,k⟩ h)
 rw[n]at a
 have g:Hid (qC (zm S).files f= -1):=by show _=_;simp[qC,zq,d]
 have c:(zm S).files.length<=N:=by rw[zq];exact hn
 clear n d b
 go_enter func127,ntmps127
 go_wp2_with(first
  |(go_at_call 197;refine(ud a).mono ?_;rintro e q ⟨rfl,m,i⟩)
  |(go_at_call 198;refine(yN B p (zm S) _ f _ N o c m).mono ?_;rintro e r ⟨rfl,rfl⟩;rw[ud g]))
 go_ret
 exact⟨rfl,m,i⟩
theorem zjE(B:Nat)(p:Nat)(S:DS)(fs:Value)(l:ByteArray)(w:World)(N:Nat)(x:N<=1099511627776)(r:DOk S N)(u:zo S=false)(i:Nat)(f:FS)(j:xN S.files l=some i)(t:S.files[i]?=some f)(h:zw 111 113 B w p S fs):
  Calls prog 127 #[(O p),.string l] w fun e w'=>e=.returned (.bool true)/\zw 111 113 B w' p {zm S with files:=(zm S).files.set i {f with safe:=f.data.size}} fs/\zh (foot p fs) w w':=by
 obtain⟨o,q,hn,b⟩:=r
 have a:=ze (yr B p S fs w ⟨o,q⟩ h)
 rw[u]at a
 have C:i<S.files.length:=(List.getElem?_eq_some_iff.1 t).1
 have D:(i:Int)<S.files.length:=by omega
 have A:(0:Int)<=(i:Int):=by omega
 have m:Hid (qC (zm S).files l=i):=by show _=_;simp[qC,zq,j]
 have c:(zm S).files[i]?=some f:=by rw[zq];exact t
 have s:=ze c
 have d:(zm S).files.length<=N:=by rw[zq];exact hn
 have v:Hid (S.files.length=(zm S).files.length):=by show _=_;rw[zq]
 obtain⟨g,cap,rfl,-⟩:=h.files (by omega)
 clear u j c b
 go_enter func127,ntmps127
 go_wp2_with(first
  |(go_at_call 197;refine(ud a).mono ?_;rintro e G ⟨rfl,k,n⟩;have F:=k.c0;obtain⟨I,J,K,L⟩:=k.at (ud s))
  |(go_at_call 198;refine(yN B p (zm S) _ l _ N x d k).mono ?_;rintro e H ⟨rfl,rfl⟩;rw[ud m]))
 go_region
 go_wp2
 go_ret
 obtain⟨y,E⟩:=k.setSafe (by decide) (by rw[ud v]) (ud s) f.data.size
 exact⟨rfl,y.drew,n.trans E.drew (fun _ _ z=>z)⟩
theorem JZ(B:Nat)(p:Nat)(S:DS)(fs:Value)(d:ByteArray)(w:World)(N:Nat)(g:N<=1099511627776)(b:DOk S N)(h:zw 111 113 B w p S fs):
  Calls prog 127 #[(O p),.string d] w fun e w'=>e=.returned (.bool (!zo S))/\zw 111 113 B w' p (xI S d) fs/\zh (foot p fs) w w':=by
 cases c:zo S
 ·cases a:xN S.files d with
  |none=>rw[ZP c a];exact zjD B p S fs d w N g b c a h
  |some i=>
   obtain⟨f,j,_,_⟩:=kh a
   rw[qs c a j]
   exact zjE B p S fs d w N g b c i f a j h
 ·rw[jd c]
  exact zbL B p S fs d w N g b c h
end Go.Proofs.YtndhpgciopcncaaGreatDoor
