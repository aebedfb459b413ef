import Derived.Test.YtndhpgciopcncaaGreatDoorRows
import Derived.Test.YtndhpgciopcncaaGreatDoorYLater
import Derived.Test.YtndhpgciopcncaaGreatDoorYDisk0
import Derived.WalkKit
import Derived.WalkSpells
import Derived.WalkLawsBesides
open Option renaming none → I
open Option renaming some → J
open Go.Value (int)
open Go.IntKind (i64)
set_option linter.unusedVariables false
set_option maxHeartbeats 1000000
open Go.Proofs.Tryz
namespace Go.Proofs.YtndhpgciopcncaaGreatDoor
open Go.RowKit
structure zv(T e:TypeId)(B:Nat)(w:World)(p:Nat)(S:DS)(fs:Value):Prop where
 head:w.1[p]?=J (.cells #[fs,int i64 S.left,.bool S.down] T (0,0))
 base:B<=p
 row:w.ownsRow B e 3 fs S.files.length (zK S.files)
theorem xK{w:World}{g:Nat}{cs:Array Value}{t:TypeId}{a:Nat×Nat}(h:w.1[g]?=J (.cells cs t a))(i:Nat):w.cell? ⟨g,i,I⟩=cs[i]?:=by simp[World.cell?,h]
theorem KD{w:World}{g:Nat}{cs:Array Value}{t:TypeId}(h:w.1[g]?=J (.cells cs t (0,0)))(i:Nat):w.frozen? ⟨g,i,I⟩=false:=by simp[World.frozen?,h]
theorem zkm{w:World}{g i:Nat}{cs:Array Value}{t:TypeId}{a:Nat×Nat}(h:w.1[g]?=J (.cells cs t a))(v:Value):(w.setCell ⟨g,i,I⟩ v).1[g]?=J (.cells (cs.setIfInBounds i v) t a):=by
 rw[setCell_eq_setRow w g i cs t a v h]
 exact setRow_heap w g _ _ t _ h
section
variable {T e:TypeId} {B:Nat} {w:World} {p:Nat} {S:DS} {fs:Value}
theorem zv.c0(h:zv T e B w p S fs):w.cell? ⟨p,0,I⟩=J fs:=by rw[xK h.head];rfl
theorem zv.c1(h:zv T e B w p S fs):w.cell? ⟨p,1,I⟩=J (int i64 S.left):=by rw[xK h.head];rfl
theorem zv.c2(h:zv T e B w p S fs):w.cell? ⟨p,2,I⟩=J (.bool S.down):=by rw[xK h.head];rfl
theorem zv.free(h:zv T e B w p S fs)(i:Nat):w.frozen? ⟨p,i,I⟩=false:=KD h.head i
def foot(p:Nat)(fs:Value)(k:Nat):Prop:=k=p\/fs.ownBlock=J k
theorem zv.apart(h:zv T e B w p S fs)(c:T≠e):fs.ownBlock≠J p:=fun d=>by
 obtain⟨b,a⟩:=zz h.row d
 rw[h.head]at a
 injection a with a;injection a with _ a;exact c a
theorem zv.kept{f:Nat->Prop}{w':World}(h:zv T e B w p S fs)(a:zk f w w')(hn:∀k,foot p fs k->¬f k):zv T e B w' p S fs:=
 ⟨a.heap h.head (hn p (.inl rfl)),h.base,zg h.row a (fun k b=>hn k (.inr b))⟩
theorem zv.later{w':World}(h:zv T e B w p S fs)(a:Below w.1.size w w'):zv T e B w' p S fs:=
 h.kept (f:=fun _=>False) (zk.of_below a) (fun _ _ b=>b)
theorem zv.lt(h:zv T e B w p S fs):p<w.1.size:=zb h.head
theorem zv.files(h:zv T e B w p S fs)(hn:0<S.files.length):∃g cap,fs=.slice (J ⟨g,0,I⟩) S.files.length cap/\B<=g/\g<w.1.size/\(∀j,w.frozen? ⟨g,j,I⟩=false)/\
  ∀i f,S.files[i]?=J f->w.cell? ⟨g,i*3,I⟩=J (.string f.name)/\w.cell? ⟨g,i*3+1,I⟩=J (.string f.data)/\w.cell? ⟨g,i*3+2,I⟩=J (int i64 f.safe):=by
 obtain⟨g,cap,hv,d,c⟩:=h.row.form hn
 have a:=h.row
 rw[hv]at a
 refine⟨g,cap,hv,d,c,fun j=>a.frozenAt j,fun i f b=>?_⟩
 have k:i<S.files.length:=(List.getElem?_eq_some_iff.1 b).1
 refine⟨?_,?_,?_⟩
 ·rw[a.cellAt _ (by omega),Qn _ _ _ b]
 ·rw[a.cellAt _ (by omega),Qo _ _ _ b]
 ·rw[a.cellAt _ (by omega),Qp _ _ _ b]
theorem Vg(h:w.ownsRow B e 3 fs S.files.length (zK S.files)):∃a cap,fs=.slice a S.files.length cap:=by
 rcases h.2 with⟨b,c⟩|⟨g,cap,_,b,_⟩
 ·exact⟨I,0,by rw[b,c]⟩
 ·exact⟨_,cap,b⟩
theorem zv.setDown(h:zv T e B w p S fs)(d:T≠e)(b:Bool):zv T e B (w.setCell ⟨p,2,I⟩ (.bool b)) p {S with down:=b} fs/\zk (foot p fs) w (w.setCell ⟨p,2,I⟩ (.bool b)):=by
 have g:zk (foot p fs) w (w.setCell ⟨p,2,I⟩ (.bool b)):=(zk.refl _ _).setCell (fun _=> .inl rfl) _
 have a:zk (fun k=>k=p) w (w.setCell ⟨p,2,I⟩ (.bool b)):=(zk.refl (fun k=>k=p) w).setCell (fun _=>rfl) _
 exact⟨⟨by rw[zkm h.head];rfl,h.base,zg h.row a (fun k f c=>h.apart d (c▸f))⟩,g⟩
theorem zv.setLeft(h:zv T e B w p S fs)(c:T≠e)(n:Int):zv T e B (w.setCell ⟨p,1,I⟩ (int i64 n)) p {S with left:=n} fs/\zk (foot p fs) w (w.setCell ⟨p,1,I⟩ (int i64 n)):=by
 have f:zk (foot p fs) w (w.setCell ⟨p,1,I⟩ (int i64 n)):=(zk.refl _ _).setCell (fun _=> .inl rfl) _
 have a:zk (fun k=>k=p) w (w.setCell ⟨p,1,I⟩ (int i64 n)):=(zk.refl (fun k=>k=p) w).setCell (fun _=>rfl) _
 exact⟨⟨by rw[zkm h.head];rfl,h.base,zg h.row a (fun k d b=>h.apart c (b▸d))⟩,f⟩
end
theorem kt{a b:Bool}(h:a=b):Ending.returned (.bool a)=.returned (.bool b):=by rw[h]
theorem zbg{k:IntKind}{a b:Int}(h:a=b):Ending.returned (.int k a)=.returned (.int k b):=by rw[h]
theorem qP(B:Nat)(p:Nat)(S:DS)(fs:Value)(w:World)(h:zv 111 113 B w p S fs):
  Calls prog 32 #[.pointer (J ⟨p,0,I⟩)] w fun e w'=>e=.returned (.bool (zi S))/\w'=w:=by
 have d:=h.c1
 have c:=h.c2
 have b:Hid (zi S=(S.down||S.left==0)):=rfl
 cases a:S.down
 ·rw[a]at c
  go_enter func32,ntmps32
  go_wp2
  go_ret
  exact⟨kt (by rw[b.out,a];simp),rfl⟩
 ·rw[a]at c
  go_enter func32,ntmps32
  go_wp2
  go_ret
  exact⟨kt (by rw[b.out,a];simp),rfl⟩
theorem XG{S:DS}(h:zi S=true):zh S={S with down:=true}:=by simp[zh,h]
theorem zaL{S:DS}(h:zi S=false)(a:0<S.left):zh S={S with left:=S.left-1}:=by simp[zh,h,a]
theorem zaK{S:DS}(h:zi S=false)(a:¬0<S.left):zh S=S:=by simp[zh,h,a]
theorem qL(B:Nat)(p:Nat)(S:DS)(fs:Value)(w:World)(m: -1<=S.left/\S.left<=9223372036854775807)(h:zv 111 113 B w p S fs):
  Calls prog 197 #[.pointer (J ⟨p,0,I⟩)] w fun e w'=>e=.returned (.bool (!zi S))/\zv 111 113 B w' p (zh S) fs/\zk (foot p fs) w w':=by
 have l:=h.c1
 have g:=h.c2
 have j:=h.free
 have d:Hid (zi S=(S.down||S.left==0)):=rfl
 cases f:S.down
 ·rw[f]at g
  by_cases c:S.left=0
  ·have b:zi S=true:=by simp[zi,c]
   have k:(S.left==0)=true:=by simp[c]
   have a:=h.setDown (by decide) true
   rw[<-XG b]at a
   have a:Hid (_/\_):=a
   have HR:Hid ((!zi S)=false):=by show _=_;rw[b];rfl
   clear d b c h
   go_enter func197,ntmps197
   go_wp2
   go_ret
   exact⟨kt HR.out.symm,a.out⟩
  ·have b:zi S=false:=by simp[zi,c,f]
   have k:(S.left==0)=false:=by simp[c]
   have HR:Hid ((!zi S)=true):=by show _=_;rw[b];rfl
   by_cases i:0<S.left
   ·have a:=h.setLeft (by decide) (S.left-1)
    rw[<-zaL b i]at a
    have a:Hid (_/\_):=a
    clear d b c h
    go_enter func197,ntmps197
    go_wp2
    go_ret
    exact⟨kt HR.out.symm,a.out⟩
   ·have a:Hid (zv 111 113 B w p (zh S) fs):=by show zv _ _ _ _ _ _ _;rw[zaK b i];exact h
    clear d b c h
    go_enter func197,ntmps197
    go_wp2
    go_ret
    exact⟨kt HR.out.symm,a.out,zk.refl _ _⟩
 ·rw[f]at g
  have b:zi S=true:=by simp[zi,f]
  have a:=h.setDown (by decide) true
  rw[<-XG b]at a
  have a:Hid (_/\_):=a
  have HR:Hid ((!zi S)=false):=by show _=_;rw[b];rfl
  clear d b h
  go_enter func197,ntmps197
  go_wp2
  go_ret
  exact⟨kt HR.out.symm,a.out⟩
theorem qZ(B:Nat)(p:Nat)(S:DS)(fs:Value)(c:ByteArray)(w:World)(N:Nat)(G:N<=1099511627776)(K:S.files.length<=N)(h:zv 111 113 B w p S fs):
  Calls prog 198 #[.pointer (J ⟨p,0,I⟩),.string c] w fun e w'=>e=.returned (int i64 (xY S.files c))/\w'=w:=by
 have E:=h.c0
 obtain⟨a,cap,r⟩:=Vg h.row
 subst r
 go_enter func198,ntmps198
 go_wp2
 go_loop [4,5,11] (fun _ _ y=>∃(k:Nat),k<=S.files.length/\y=int i64 k/\∀j f,j<k->S.files[j]?=J f->eqS f.name c=false) (fun _ _ y=>S.files.length-(intOf y).toNat)
 case atStart=>exact⟨0,Nat.zero_le _,rfl,fun j f s=>absurd s (Nat.not_lt_zero _)⟩
 case round=>
  obtain⟨k,H,rfl,x⟩:=hrel
  have n:=zd x
  clear x
  by_cases t:k<S.files.length
  ·obtain⟨g,v,hv,_,_,_,z⟩:=h.files (by omega)
   cases hv
   obtain⟨f,i⟩:=Qs t
   obtain⟨F,_,_⟩:=z k f i
   have u:=zd i
   have D:(k:Int)<S.files.length:=by omega
   clear z i h
   cases d:eqS f.name c
   ·have q:(f.name.toList==c.toList)=false:=d
    have A:=zd d
    clear d
    go_wp2
    go_round
    case rel=>
     refine⟨k+1,by omega,by go_num,fun j C s b=>?_⟩
     by_cases e:j=k
     ·subst e;rw[ud u]at b;cases b;exact ud A
     ·exact ud n j C (by omega) b
    case measure=>simp[intOf];omega
   ·have m:=(zas (ud u) d (ud n)).2
    have o:=zd m
    have q:(f.name.toList==c.toList)=true:=d
    clear m d
    go_wp2
    go_ret
    exact⟨zbg (ud o).symm,rfl⟩
  ·have m:=(zar (l:=S.files) (name:=c) (fun j f s i=>ud n j f (by omega) i)).2
   have o:=zd m
   clear m
   go_wp2
   go_ret
   exact⟨zbg (ud o).symm,rfl⟩
end Go.Proofs.YtndhpgciopcncaaGreatDoor
