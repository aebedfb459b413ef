import Derived.Test.YtndhpgciopcncaaGreatDoorRows
import Derived.Test.YtndhpgciopcncaaGreatDoorULater
import Derived.Test.YtndhpgciopcncaaGreatDoorUDisk0
import Derived.WalkKit
import Derived.WalkSpells
import Derived.WalkLawsBesides
open Option renaming none → I
open Go.Value (int)
open Go.IntKind (i64)
set_option linter.unusedVariables false
set_option maxHeartbeats 1000000
open Go.Proofs.Tryz
namespace Go.Proofs.YtndhpgciopcncaaGreatDoor
open Go.RowKit
structure zx(T e:TypeId)(B:Nat)(w:World)(p:Nat)(S:DS)(fs:Value):Prop where
 head:w.1[p]?=some (.cells #[fs,int i64 S.left,.bool S.down] T (0,0))
 base:B<=p
 row:w.ownsRow B e 3 fs S.files.length (zJ S.files)
theorem xN{w:World}{g:Nat}{cs:Array Value}{t:TypeId}{a:Nat×Nat}(h:w.1[g]?=some (.cells cs t a))(i:Nat):w.cell? ⟨g,i,I⟩=cs[i]?:=by simp[World.cell?,h]
theorem Yd{w:World}{g:Nat}{cs:Array Value}{t:TypeId}(h:w.1[g]?=some (.cells cs t (0,0)))(i:Nat):w.frozen? ⟨g,i,I⟩=false:=by simp[World.frozen?,h]
theorem zjt{w:World}{g i:Nat}{cs:Array Value}{t:TypeId}{a:Nat×Nat}(h:w.1[g]?=some (.cells cs t a))(v:Value):(w.setCell ⟨g,i,I⟩ v).1[g]?=some (.cells (cs.setIfInBounds i v) t a):=by
 rw[setCell_eq_setRow w g i cs t a v h]
 exact setRow_heap w g _ _ t _ h
section
variable {T e:TypeId} {B:Nat} {w:World} {p:Nat} {S:DS} {fs:Value}
theorem zx.c0(h:zx T e B w p S fs):w.cell? ⟨p,0,I⟩=some fs:=by rw[xN h.head];rfl
theorem zx.c1(h:zx T e B w p S fs):w.cell? ⟨p,1,I⟩=some (int i64 S.left):=by rw[xN h.head];rfl
theorem zx.c2(h:zx T e B w p S fs):w.cell? ⟨p,2,I⟩=some (.bool S.down):=by rw[xN h.head];rfl
theorem zx.free(h:zx T e B w p S fs)(i:Nat):w.frozen? ⟨p,i,I⟩=false:=Yd h.head i
def foot(p:Nat)(fs:Value)(k:Nat):Prop:=k=p\/fs.ownBlock=some k
theorem zx.apart(h:zx T e B w p S fs)(c:T≠e):fs.ownBlock≠some p:=fun d=>by
 obtain⟨b,a⟩:=zG h.row d
 rw[h.head]at a
 injection a with a;injection a with _ a;exact c a
theorem zx.kept{f:Nat->Prop}{w':World}(h:zx T e B w p S fs)(a:zo f w w')(hn:∀k,foot p fs k->¬f k):zx T e B w' p S fs:=
 ⟨a.heap h.head (hn p (.inl rfl)),h.base,zk h.row a (fun k b=>hn k (.inr b))⟩
theorem zx.later{w':World}(h:zx T e B w p S fs)(a:Below w.1.size w w'):zx T e B w' p S fs:=
 h.kept (f:=fun _=>False) (zo.of_below a) (fun _ _ b=>b)
theorem zx.lt(h:zx T e B w p S fs):p<w.1.size:=za h.head
theorem zx.files(h:zx T e B w p S fs)(hn:0<S.files.length):∃g cap,fs=.slice (some ⟨g,0,I⟩) S.files.length cap/\B<=g/\g<w.1.size/\(∀j,w.frozen? ⟨g,j,I⟩=false)/\
  ∀i f,S.files[i]?=some f->w.cell? ⟨g,i*3,I⟩=some (.string f.name)/\w.cell? ⟨g,i*3+1,I⟩=some (.string f.data)/\w.cell? ⟨g,i*3+2,I⟩=some (int i64 f.safe):=by
 obtain⟨g,cap,hv,d,c⟩:=h.row.form hn
 have a:=h.row
 rw[hv]at a
 refine⟨g,cap,hv,d,c,fun j=>a.frozenAt j,fun i f b=>?_⟩
 have k:i<S.files.length:=(List.getElem?_eq_some_iff.1 b).1
 refine⟨?_,?_,?_⟩
 ·rw[a.cellAt _ (by omega),Xs _ _ _ b]
 ·rw[a.cellAt _ (by omega),Xt _ _ _ b]
 ·rw[a.cellAt _ (by omega),Xu _ _ _ b]
theorem YM(h:w.ownsRow B e 3 fs S.files.length (zJ S.files)):∃a cap,fs=.slice a S.files.length cap:=by
 rcases h.2 with⟨b,c⟩|⟨g,cap,_,b,_⟩
 ·exact⟨I,0,by rw[b,c]⟩
 ·exact⟨_,cap,b⟩
theorem zx.setDown(h:zx T e B w p S fs)(d:T≠e)(b:Bool):zx T e B (w.setCell ⟨p,2,I⟩ (.bool b)) p {S with down:=b} fs/\zo (foot p fs) w (w.setCell ⟨p,2,I⟩ (.bool b)):=by
 have g:zo (foot p fs) w (w.setCell ⟨p,2,I⟩ (.bool b)):=(zo.refl _ _).setCell (fun _=> .inl rfl) _
 have a:zo (fun k=>k=p) w (w.setCell ⟨p,2,I⟩ (.bool b)):=(zo.refl (fun k=>k=p) w).setCell (fun _=>rfl) _
 exact⟨⟨by rw[zjt h.head];rfl,h.base,zk h.row a (fun k f c=>h.apart d (c▸f))⟩,g⟩
theorem zx.setLeft(h:zx T e B w p S fs)(c:T≠e)(n:Int):zx T e B (w.setCell ⟨p,1,I⟩ (int i64 n)) p {S with left:=n} fs/\zo (foot p fs) w (w.setCell ⟨p,1,I⟩ (int i64 n)):=by
 have f:zo (foot p fs) w (w.setCell ⟨p,1,I⟩ (int i64 n)):=(zo.refl _ _).setCell (fun _=> .inl rfl) _
 have a:zo (fun k=>k=p) w (w.setCell ⟨p,1,I⟩ (int i64 n)):=(zo.refl (fun k=>k=p) w).setCell (fun _=>rfl) _
 exact⟨⟨by rw[zjt h.head];rfl,h.base,zk h.row a (fun k d b=>h.apart c (b▸d))⟩,f⟩
end
theorem vL{a b:Bool}(h:a=b):Ending.returned (.bool a)=.returned (.bool b):=by rw[h]
theorem JD{k:IntKind}{a b:Int}(h:a=b):Ending.returned (.int k a)=.returned (.int k b):=by rw[h]
theorem ZN{S:DS}(h:zj S=true):ze S={S with down:=true}:=by simp[ze,h]
theorem Jo{S:DS}(h:zj S=false)(a:0<S.left):ze S={S with left:=S.left-1}:=by simp[ze,h,a]
theorem Jn{S:DS}(h:zj S=false)(a:¬0<S.left):ze S=S:=by simp[ze,h,a]
theorem qJ(B:Nat)(p:Nat)(S:DS)(fs:Value)(w:World)(m: -1<=S.left/\S.left<=9223372036854775807)(h:zx 111 113 B w p S fs):
  Calls prog 197 #[.pointer (some ⟨p,0,I⟩)] w fun e w'=>e=.returned (.bool (!zj S))/\zx 111 113 B w' p (ze S) fs/\zo (foot p fs) w w':=by
 have l:=h.c1
 have g:=h.c2
 have j:=h.free
 have d:Hid (zj S=(S.down||S.left==0)):=rfl
 cases f:S.down
 ·rw[f]at g
  by_cases c:S.left=0
  ·have b:zj S=true:=by simp[zj,c]
   have k:(S.left==0)=true:=by simp[c]
   have a:=h.setDown (by decide) true
   rw[<-ZN b]at a
   have a:Hid (_/\_):=a
   have HR:Hid ((!zj S)=false):=by show _=_;rw[b];rfl
   clear d b c h
   go_enter func197,ntmps197
   go_wp2
   go_ret
   exact⟨vL HR.out.symm,a.out⟩
  ·have b:zj S=false:=by simp[zj,c,f]
   have k:(S.left==0)=false:=by simp[c]
   have HR:Hid ((!zj S)=true):=by show _=_;rw[b];rfl
   by_cases i:0<S.left
   ·have a:=h.setLeft (by decide) (S.left-1)
    rw[<-Jo b i]at a
    have a:Hid (_/\_):=a
    clear d b c h
    go_enter func197,ntmps197
    go_wp2
    go_ret
    exact⟨vL HR.out.symm,a.out⟩
   ·have a:Hid (zx 111 113 B w p (ze S) fs):=by show zx _ _ _ _ _ _ _;rw[Jn b i];exact h
    clear d b c h
    go_enter func197,ntmps197
    go_wp2
    go_ret
    exact⟨vL HR.out.symm,a.out,zo.refl _ _⟩
 ·rw[f]at g
  have b:zj S=true:=by simp[zj,f]
  have a:=h.setDown (by decide) true
  rw[<-ZN b]at a
  have a:Hid (_/\_):=a
  have HR:Hid ((!zj S)=false):=by show _=_;rw[b];rfl
  clear d b h
  go_enter func197,ntmps197
  go_wp2
  go_ret
  exact⟨vL HR.out.symm,a.out⟩
theorem qW(B:Nat)(p:Nat)(S:DS)(fs:Value)(c:ByteArray)(w:World)(N:Nat)(G:N<=1099511627776)(J:S.files.length<=N)(h:zx 111 113 B w p S fs):
  Calls prog 198 #[.pointer (some ⟨p,0,I⟩),.string c] w fun e w'=>e=.returned (int i64 (qc S.files c))/\w'=w:=by
 have E:=h.c0
 obtain⟨a,cap,r⟩:=YM h.row
 subst r
 go_enter func198,ntmps198
 go_wp2
 go_loop [4,5,11] (fun _ _ y=>∃(k:Nat),k<=S.files.length/\y=int i64 k/\∀j f,j<k->S.files[j]?=some f->eqS f.name c=false) (fun _ _ y=>S.files.length-(intOf y).toNat)
 case atStart=>exact⟨0,Nat.zero_le _,rfl,fun j f s=>absurd s (Nat.not_lt_zero _)⟩
 case round=>
  obtain⟨k,H,rfl,x⟩:=hrel
  have n:=zd x
  clear x
  by_cases t:k<S.files.length
  ·obtain⟨g,v,hv,_,_,_,z⟩:=h.files (by omega)
   cases hv
   obtain⟨f,i⟩:=Xv t
   obtain⟨F,_,_⟩:=z k f i
   have u:=zd i
   have D:(k:Int)<S.files.length:=by omega
   clear z i h
   cases d:eqS f.name c
   ·have q:(f.name.toList==c.toList)=false:=d
    have A:=zd d
    clear d
    go_wp2
    go_round
    case rel=>
     refine⟨k+1,by omega,by go_num,fun j C s b=>?_⟩
     by_cases e:j=k
     ·subst e;rw[ud u]at b;cases b;exact ud A
     ·exact ud n j C (by omega) b
    case measure=>simp[intOf];omega
   ·have m:=(Jb (ud u) d (ud n)).2
    have o:=zd m
    have q:(f.name.toList==c.toList)=true:=d
    clear m d
    go_wp2
    go_ret
    exact⟨JD (ud o).symm,rfl⟩
  ·have m:=(Ja (l:=S.files) (name:=c) (fun j f s i=>ud n j f (by omega) i)).2
   have o:=zd m
   clear m
   go_wp2
   go_ret
   exact⟨JD (ud o).symm,rfl⟩
end Go.Proofs.YtndhpgciopcncaaGreatDoor
