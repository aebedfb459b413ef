import Derived.Test.YtpbimdkclnekeaaGreatRows
import Derived.Test.YtpbimdkclnekeaaGreatVLater
import Derived.Test.YtpbimdkclnekeaaGreatVDisk0
import Derived.WalkKit
import Derived.WalkSpells
import Derived.WalkLawsBesides
open Option renaming none → I
open Option renaming some → J
open Go.Value (int)
open Go.IntKind (i64)
set_option linter.unusedVariables false
set_option maxHeartbeats 1000000
open Go.Proofs.Tryz
namespace Go.Proofs.YtpbimdkclnekeaaGreat
open Go.RowKit
structure zR(T e:TypeId)(B:Nat)(w:World)(p:Nat)(S:DS)(fs:Value):Prop where
 head:w.1[p]?=J (.cells #[fs,int i64 S.left,.bool S.down] T (0,0))
 base:B<=p
 row:w.ownsRow B e 3 fs S.files.length (xe S.files)
theorem zje{w:World}{g:Nat}{cs:Array Value}{t:TypeId}{a:Nat×Nat}(h:w.1[g]?=J (.cells cs t a))(i:Nat):w.cell? ⟨g,i,I⟩=cs[i]?:=by simp[World.cell?,h]
theorem zlv{w:World}{g:Nat}{cs:Array Value}{t:TypeId}(h:w.1[g]?=J (.cells cs t (0,0)))(i:Nat):w.frozen? ⟨g,i,I⟩=false:=by simp[World.frozen?,h]
theorem zlw{w:World}{g i:Nat}{cs:Array Value}{t:TypeId}{a:Nat×Nat}(h:w.1[g]?=J (.cells cs t a))(v:Value):(w.setCell ⟨g,i,I⟩ v).1[g]?=J (.cells (cs.setIfInBounds i v) t a):=by
 rw[setCell_eq_setRow w g i cs t a v h]
 exact setRow_heap w g _ _ t _ h
section
variable {T e:TypeId} {B:Nat} {w:World} {p:Nat} {S:DS} {fs:Value}
theorem zR.c0(h:zR T e B w p S fs):w.cell? ⟨p,0,I⟩=J fs:=by rw[zje h.head];rfl
theorem zR.c1(h:zR T e B w p S fs):w.cell? ⟨p,1,I⟩=J (int i64 S.left):=by rw[zje h.head];rfl
theorem zR.c2(h:zR T e B w p S fs):w.cell? ⟨p,2,I⟩=J (.bool S.down):=by rw[zje h.head];rfl
theorem zR.free(h:zR T e B w p S fs)(i:Nat):w.frozen? ⟨p,i,I⟩=false:=zlv h.head i
def foot(p:Nat)(fs:Value)(k:Nat):Prop:=k=p\/fs.ownBlock=J k
theorem zR.apart(h:zR T e B w p S fs)(c:T≠e):fs.ownBlock≠J p:=fun d=>by
 obtain⟨b,a⟩:=zO h.row d
 rw[h.head]at a
 injection a with a;injection a with _ a;exact c a
theorem zR.kept{f:Nat->Prop}{w':World}(h:zR T e B w p S fs)(a:zk f w w')(hn:∀k,foot p fs k->¬f k):zR T e B w' p S fs:=
 ⟨a.heap h.head (hn p (.inl rfl)),h.base,zi h.row a (fun k b=>hn k (.inr b))⟩
theorem zR.later{w':World}(h:zR T e B w p S fs)(a:Below w.1.size w w'):zR T e B w' p S fs:=
 h.kept (f:=fun _=>False) (zk.of_below a) (fun _ _ b=>b)
theorem zR.lt(h:zR T e B w p S fs):p<w.1.size:=zd h.head
theorem zR.files(h:zR T e B w p S fs)(hn:0<S.files.length):∃g cap,fs=.slice (J ⟨g,0,I⟩) S.files.length cap/\B<=g/\g<w.1.size/\(∀j,w.frozen? ⟨g,j,I⟩=false)/\
  ∀i f,S.files[i]?=J f->w.cell? ⟨g,i*3,I⟩=J (.string f.name)/\w.cell? ⟨g,i*3+1,I⟩=J (.string f.data)/\w.cell? ⟨g,i*3+2,I⟩=J (int i64 f.safe):=by
 obtain⟨g,cap,hv,d,c⟩:=h.row.form hn
 have a:=h.row
 rw[hv]at a
 refine⟨g,cap,hv,d,c,fun j=>a.frozenAt j,fun i f b=>?_⟩
 have k:i<S.files.length:=(List.getElem?_eq_some_iff.1 b).1
 refine⟨?_,?_,?_⟩
 ·rw[a.cellAt _ (by omega),QX _ _ _ b]
 ·rw[a.cellAt _ (by omega),QY _ _ _ b]
 ·rw[a.cellAt _ (by omega),Y5 _ _ _ b]
theorem zcr(h:w.ownsRow B e 3 fs S.files.length (xe S.files)):∃a cap,fs=.slice a S.files.length cap:=by
 rcases h.2 with⟨b,c⟩|⟨g,cap,_,b,_⟩
 ·exact⟨I,0,by rw[b,c]⟩
 ·exact⟨_,cap,b⟩
theorem zR.setDown(h:zR T e B w p S fs)(d:T≠e)(b:Bool):zR T e B (w.setCell ⟨p,2,I⟩ (.bool b)) p {S with down:=b} fs/\zk (foot p fs) w (w.setCell ⟨p,2,I⟩ (.bool b)):=by
 have g:zk (foot p fs) w (w.setCell ⟨p,2,I⟩ (.bool b)):=(zk.refl _ _).setCell (fun _=> .inl rfl) _
 have a:zk (fun k=>k=p) w (w.setCell ⟨p,2,I⟩ (.bool b)):=(zk.refl (fun k=>k=p) w).setCell (fun _=>rfl) _
 exact⟨⟨by rw[zlw h.head];rfl,h.base,zi h.row a (fun k f c=>h.apart d (c▸f))⟩,g⟩
theorem zR.setLeft(h:zR T e B w p S fs)(c:T≠e)(n:Int):zR T e B (w.setCell ⟨p,1,I⟩ (int i64 n)) p {S with left:=n} fs/\zk (foot p fs) w (w.setCell ⟨p,1,I⟩ (int i64 n)):=by
 have f:zk (foot p fs) w (w.setCell ⟨p,1,I⟩ (int i64 n)):=(zk.refl _ _).setCell (fun _=> .inl rfl) _
 have a:zk (fun k=>k=p) w (w.setCell ⟨p,1,I⟩ (int i64 n)):=(zk.refl (fun k=>k=p) w).setCell (fun _=>rfl) _
 exact⟨⟨by rw[zlw h.head];rfl,h.base,zi h.row a (fun k d b=>h.apart c (b▸d))⟩,f⟩
end
theorem vL{a b:Bool}(h:a=b):Ending.returned (.bool a)=.returned (.bool b):=by rw[h]
theorem zbI{k:IntKind}{a b:Int}(h:a=b):Ending.returned (.int k a)=.returned (.int k b):=by rw[h]
theorem qO(B:Nat)(p:Nat)(S:DS)(fs:Value)(w:World)(h:zR 119 185 B w p S fs):
  Calls prog 47 #[.pointer (J ⟨p,0,I⟩)] w fun e w'=>e=.returned (.bool (zH S))/\w'=w:=by
 have d:=h.c1
 have c:=h.c2
 have b:Hid (zH S=(S.down||S.left==0)):=rfl
 cases a:S.down
 ·rw[a]at c
  go_enter func47,ntmps47
  go_wp2
  go_ret
  exact⟨vL (by rw[b.out,a];simp),rfl⟩
 ·rw[a]at c
  go_enter func47,ntmps47
  go_wp2
  go_ret
  exact⟨vL (by rw[b.out,a];simp),rfl⟩
theorem Qj{S:DS}(h:zH S=true):zQ S={S with down:=true}:=by simp[zQ,h]
theorem zbs{S:DS}(h:zH S=false)(a:0<S.left):zQ S={S with left:=S.left-1}:=by simp[zQ,h,a]
theorem zbr{S:DS}(h:zH S=false)(a:¬0<S.left):zQ S=S:=by simp[zQ,h,a]
theorem Za(B:Nat)(p:Nat)(S:DS)(fs:Value)(w:World)(m: -1<=S.left/\S.left<=9223372036854775807)(h:zR 119 185 B w p S fs):
  Calls prog 173 #[.pointer (J ⟨p,0,I⟩)] w fun e w'=>e=.returned (.bool (!zH S))/\zR 119 185 B w' p (zQ S) fs/\zk (foot p fs) w w':=by
 have l:=h.c1
 have g:=h.c2
 have j:=h.free
 have d:Hid (zH S=(S.down||S.left==0)):=rfl
 cases f:S.down
 ·rw[f]at g
  by_cases c:S.left=0
  ·have b:zH S=true:=by simp[zH,c]
   have k:(S.left==0)=true:=by simp[c]
   have a:=h.setDown (by decide) true
   rw[<-Qj b]at a
   have a:Hid (_/\_):=a
   have HR:Hid ((!zH S)=false):=by show _=_;rw[b];rfl
   clear d b c h
   go_enter func173,ntmps173
   go_wp2
   go_ret
   exact⟨vL HR.out.symm,a.out⟩
  ·have b:zH S=false:=by simp[zH,c,f]
   have k:(S.left==0)=false:=by simp[c]
   have HR:Hid ((!zH S)=true):=by show _=_;rw[b];rfl
   by_cases i:0<S.left
   ·have a:=h.setLeft (by decide) (S.left-1)
    rw[<-zbs b i]at a
    have a:Hid (_/\_):=a
    clear d b c h
    go_enter func173,ntmps173
    go_wp2
    go_ret
    exact⟨vL HR.out.symm,a.out⟩
   ·have a:Hid (zR 119 185 B w p (zQ S) fs):=by show zR _ _ _ _ _ _ _;rw[zbr b i];exact h
    clear d b c h
    go_enter func173,ntmps173
    go_wp2
    go_ret
    exact⟨vL HR.out.symm,a.out,zk.refl _ _⟩
 ·rw[f]at g
  have b:zH S=true:=by simp[zH,f]
  have a:=h.setDown (by decide) true
  rw[<-Qj b]at a
  have a:Hid (_/\_):=a
  have HR:Hid ((!zH S)=false):=by show _=_;rw[b];rfl
  clear d b h
  go_enter func173,ntmps173
  go_wp2
  go_ret
  exact⟨vL HR.out.symm,a.out⟩
theorem jT(B:Nat)(p:Nat)(S:DS)(fs:Value)(b:ByteArray)(w:World)(N:Nat)(F:N<=1099511627776)(H:S.files.length<=N)(h:zR 119 185 B w p S fs):
  Calls prog 174 #[.pointer (J ⟨p,0,I⟩),.string b] w fun e w'=>e=.returned (int i64 (ki S.files b))/\w'=w:=by
 have D:=h.c0
 obtain⟨a,cap,q⟩:=zcr h.row
 subst q
 go_enter func174,ntmps174
 go_wp2
 go_loop [4,5,11] (fun _ _ y=>∃(k:Nat),k<=S.files.length/\y=int i64 k/\∀j f,j<k->S.files[j]?=J f->eqS f.name b=false) (fun _ _ y=>S.files.length-(intOf y).toNat)
 case atStart=>exact⟨0,Nat.zero_le _,rfl,fun j f r=>absurd r (Nat.not_lt_zero _)⟩
 case round=>
  obtain⟨k,G,rfl,v⟩:=hrel
  have m:=ze v
  clear v
  by_cases s:k<S.files.length
  ·obtain⟨g,u,hv,_,_,_,x⟩:=h.files (by omega)
   cases hv
   obtain⟨f,d⟩:=zeV s
   obtain⟨E,_,_⟩:=x k f d
   have t:=ze d
   have C:(k:Int)<S.files.length:=by omega
   clear x d h
   cases c:eqS f.name b
   ·have o:(f.name.toList==b.toList)=false:=c
    have z:=ze c
    clear c
    go_wp2
    go_round
    case rel=>
     refine⟨k+1,by omega,by go_num,fun j A r hj'=>?_⟩
     by_cases e:j=k
     ·subst e;rw[ud t]at hj';cases hj';exact ud z
     ·exact ud m j A (by omega) hj'
    case measure=>simp[intOf];omega
   ·have i:=(ZF (ud t) c (ud m)).2
    have n:=ze i
    have o:(f.name.toList==b.toList)=true:=c
    clear i c
    go_wp2
    go_ret
    exact⟨zbI (ud n).symm,rfl⟩
  ·have i:=(zbe (l:=S.files) (name:=b) (fun j f r d=>ud m j f (by omega) d)).2
   have n:=ze i
   clear i
   go_wp2
   go_ret
   exact⟨zbI (ud n).symm,rfl⟩
end Go.Proofs.YtpbimdkclnekeaaGreat
