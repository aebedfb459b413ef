import Derived.Test.YtpbimdkclnekeaaGreatVDisk2
set_option linter.unusedVariables false
set_option maxHeartbeats 1000000
open Go.Proofs.Tryz
namespace Go.Proofs.YtpbimdkclnekeaaGreat
open Go.RowKit
theorem zR.drew{T e:TypeId}{B:Nat}{w:World}{p:Nat}{S:DS}{fs:Value}(h:zR T e B w p S fs):zR T e B w.drew p S fs:=h.later ((Below.refl _ _).drew)
def ka(S:DS)(name:ByteArray):DS:=if zH S then zQ S else zgK (zQ S) name
theorem Ze{S:DS}{b:ByteArray}{i:Nat}{f:FS}(d:zH S=false)(a:kE S.files b=some i)(c:S.files[i]?=some f):ka S b={zQ S with files:=(zQ S).files.set i {f with safe:=f.data.size}}:=by
 simp[ka,d,zgK,zW,a,c]
theorem YL{S:DS}{b:ByteArray}(c:zH S=false)(a:kE S.files b=none):ka S b=zQ S:=by
 simp[ka,c,zgK,zW,a]
theorem Xv{S:DS}{b:ByteArray}(a:zH S=true):ka S b=zQ S:=by simp[ka,a]
theorem zaf(B:Nat)(p:Nat)(S:DS)(fs:Value)(l:ByteArray)(w:World)(N:Nat)(m:N<=1099511627776)(i:DOk S N)(k:zH S=true)(h:zR 119 185 B w p S fs):
  Calls prog 122 #[.pointer (some ⟨p,0,none⟩),.string l] w fun e w'=>e=.returned (.bool false)/\zR 119 185 B w' p (zQ S) fs/\zk (foot p fs) w w':=by
 obtain⟨f,g,hn,b⟩:=i
 have a:=ze (Za B p S fs w ⟨f,g⟩ h)
 rw[k]at a
 have c:(zQ S).files.length<=N:=by rw[zW];exact hn
 clear k b
 go_enter func122,ntmps122
 go_wp2_with(first
  |(go_at_call 173;refine(ud a).mono ?_;rintro e n ⟨rfl,j,d⟩)
  |(go_at_call 174;refine(jT B p (zQ S) _ l _ N m c j).mono ?_;rintro e o ⟨rfl,rfl⟩))
 go_ret
 exact⟨rfl,j,d⟩
theorem zgI(B:Nat)(p:Nat)(S:DS)(fs:Value)(f:ByteArray)(w:World)(N:Nat)(o:N<=1099511627776)(l:DOk S N)(n:zH S=false)(d:kE S.files f=none)(h:zR 119 185 B w p S fs):
  Calls prog 122 #[.pointer (some ⟨p,0,none⟩),.string f] w fun e w'=>e=.returned (.bool true)/\zR 119 185 B w' p (zQ S) fs/\zk (foot p fs) w w':=by
 obtain⟨j,k,hn,b⟩:=l
 have a:=ze (Za B p S fs w ⟨j,k⟩ h)
 rw[n]at a
 have g:Hid (ki (zQ S).files f= -1):=by show _=_;simp[ki,zW,d]
 have c:(zQ S).files.length<=N:=by rw[zW];exact hn
 clear n d b
 go_enter func122,ntmps122
 go_wp2_with(first
  |(go_at_call 173;refine(ud a).mono ?_;rintro e q ⟨rfl,m,i⟩)
  |(go_at_call 174;refine(jT B p (zQ S) _ f _ N o c m).mono ?_;rintro e r ⟨rfl,rfl⟩;rw[ud g]))
 go_ret
 exact⟨rfl,m,i⟩
theorem zgJ(B:Nat)(p:Nat)(S:DS)(fs:Value)(l:ByteArray)(w:World)(N:Nat)(x:N<=1099511627776)(r:DOk S N)(u:zH S=false)(i:Nat)(f:FS)(j:kE S.files l=some i)(t:S.files[i]?=some f)(h:zR 119 185 B w p S fs):
  Calls prog 122 #[.pointer (some ⟨p,0,none⟩),.string l] w fun e w'=>e=.returned (.bool true)/\zR 119 185 B w' p {zQ S with files:=(zQ S).files.set i {f with safe:=f.data.size}} fs/\zk (foot p fs) w w':=by
 obtain⟨o,q,hn,b⟩:=r
 have a:=ze (Za B p S fs w ⟨o,q⟩ h)
 rw[u]at a
 have C:i<S.files.length:=(List.getElem?_eq_some_iff.1 t).1
 have D:(i:Int)<S.files.length:=by omega
 have A:(0:Int)<=(i:Int):=by omega
 have m:Hid (ki (zQ S).files l=i):=by show _=_;simp[ki,zW,j]
 have c:(zQ S).files[i]?=some f:=by rw[zW];exact t
 have s:=ze c
 have d:(zQ S).files.length<=N:=by rw[zW];exact hn
 have v:Hid (S.files.length=(zQ S).files.length):=by show _=_;rw[zW]
 obtain⟨g,cap,rfl,-⟩:=h.files (by omega)
 clear u j c b
 go_enter func122,ntmps122
 go_wp2_with(first
  |(go_at_call 173;refine(ud a).mono ?_;rintro e G ⟨rfl,k,n⟩;have F:=k.c0;obtain⟨I,J,K,L⟩:=k.at (ud s))
  |(go_at_call 174;refine(jT B p (zQ S) _ l _ N x d k).mono ?_;rintro e H ⟨rfl,rfl⟩;rw[ud m]))
 go_region
 go_wp2
 go_ret
 obtain⟨y,E⟩:=k.setSafe (by decide) (by rw[ud v]) (ud s) f.data.size
 exact⟨rfl,y.drew,n.trans E.drew (fun _ _ z=>z)⟩
theorem zis(B:Nat)(p:Nat)(S:DS)(fs:Value)(d:ByteArray)(w:World)(N:Nat)(g:N<=1099511627776)(b:DOk S N)(h:zR 119 185 B w p S fs):
  Calls prog 122 #[.pointer (some ⟨p,0,none⟩),.string d] w fun e w'=>e=.returned (.bool (!zH S))/\zR 119 185 B w' p (ka S d) fs/\zk (foot p fs) w w':=by
 cases c:zH S
 ·cases a:kE S.files d with
  |none=>rw[YL c a];exact zgI B p S fs d w N g b c a h
  |some i=>
   obtain⟨f,j,_,_⟩:=XO a
   rw[Ze c a j]
   exact zgJ B p S fs d w N g b c i f a j h
 ·rw[Xv c]
  exact zaf B p S fs d w N g b c h
end Go.Proofs.YtpbimdkclnekeaaGreat
