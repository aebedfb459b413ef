import Derived.Test.YtndhpgciopcncaaGreatDoorRows
import Derived.Test.YtndhpgciopcncaaGreatDoorPLater
import Derived.Test.YtndhpgciopcncaaGreatDoorPDisk0
import Derived.WalkKit
import Derived.WalkSpells
import Derived.WalkLawsBesides
set_option linter.unusedVariables false
set_option maxHeartbeats 1000000
open Go.Proofs.Tryz
namespace Go.Proofs.YtndhpgciopcncaaGreatDoor
open Go.RowKit
structure zw(T e:TypeId)(B:Nat)(w:World)(p:Nat)(S:DS)(fs:Value):Prop where
 head:w.1[p]?=some (.cells #[fs,I S.left,.bool S.down] T (0,0))
 base:B<=p
 row:w.ownsRow B e 3 fs S.files.length (zL S.files)
theorem xO{w:World}{g:Nat}{cs:Array Value}{t:TypeId}{a:Nat×Nat}(h:w.1[g]?=some (.cells cs t a))(i:Nat):w.cell? (U g i)=cs[i]?:=by simp[World.cell?,h]
theorem Jb{w:World}{g:Nat}{cs:Array Value}{t:TypeId}(h:w.1[g]?=some (.cells cs t (0,0)))(i:Nat):w.frozen? (U g i)=false:=by simp[World.frozen?,h]
theorem zpM{w:World}{g i:Nat}{cs:Array Value}{t:TypeId}{a:Nat×Nat}(h:w.1[g]?=some (.cells cs t a))(v:Value):(w.setCell (U g i) v).1[g]?=some (.cells (cs.setIfInBounds i v) t a):=by
 rw[setCell_eq_setRow w g i cs t a v h]
 exact setRow_heap w g _ _ t _ h
section
variable {T e:TypeId} {B:Nat} {w:World} {p:Nat} {S:DS} {fs:Value}
theorem zw.c0(h:zw T e B w p S fs):w.cell? (U p 0)=some fs:=by rw[xO h.head];rfl
theorem zw.c1(h:zw T e B w p S fs):w.cell? (U p 1)=some (I S.left):=by rw[xO h.head];rfl
theorem zw.c2(h:zw T e B w p S fs):w.cell? (U p 2)=some (.bool S.down):=by rw[xO h.head];rfl
theorem zw.free(h:zw T e B w p S fs)(i:Nat):w.frozen? (U p i)=false:=Jb h.head i
def foot(p:Nat)(fs:Value)(k:Nat):Prop:=k=p\/fs.ownBlock=some k
theorem zw.apart(h:zw T e B w p S fs)(c:T≠e):fs.ownBlock≠some p:=fun d=>by
 obtain⟨b,a⟩:=zH h.row d
 rw[h.head]at a
 injection a with a;injection a with _ a;exact c a
theorem zw.kept{f:Nat->Prop}{w':World}(h:zw T e B w p S fs)(a:zh f w w')(hn:∀k,foot p fs k->¬f k):zw T e B w' p S fs:=
 ⟨a.heap h.head (hn p (.inl rfl)),h.base,zi h.row a (fun k b=>hn k (.inr b))⟩
theorem zw.later{w':World}(h:zw T e B w p S fs)(a:Below w.1.size w w'):zw T e B w' p S fs:=
 h.kept (f:=fun _=>False) (zh.of_below a) (fun _ _ b=>b)
theorem zw.lt(h:zw T e B w p S fs):p<w.1.size:=zd h.head
theorem zw.files(h:zw T e B w p S fs)(hn:0<S.files.length):∃g cap,fs=.slice (some (U g 0)) S.files.length cap/\B<=g/\g<w.1.size/\(∀j,w.frozen? (U g j)=false)/\
  ∀i f,S.files[i]?=some f->w.cell? (U g (i*3))=some (.string f.name)/\w.cell? (U g (i*3+1))=some (.string f.data)/\w.cell? (U g (i*3+2))=some (I f.safe):=by
 obtain⟨g,cap,hv,d,c⟩:=h.row.form hn
 have a:=h.row
 rw[hv]at a
 refine⟨g,cap,hv,d,c,fun j=>a.frozenAt j,fun i f b=>?_⟩
 have k:i<S.files.length:=(List.getElem?_eq_some_iff.1 b).1
 refine⟨?_,?_,?_⟩
 ·rw[a.cellAt _ (by omega),YO _ _ _ b]
 ·rw[a.cellAt _ (by omega),YP _ _ _ b]
 ·rw[a.cellAt _ (by omega),YQ _ _ _ b]
theorem Yy(h:w.ownsRow B e 3 fs S.files.length (zL S.files)):∃a cap,fs=.slice a S.files.length cap:=by
 rcases h.2 with⟨b,c⟩|⟨g,cap,_,b,_⟩
 ·exact⟨none,0,by rw[b,c]⟩
 ·exact⟨_,cap,b⟩
theorem zw.setDown(h:zw T e B w p S fs)(d:T≠e)(b:Bool):zw T e B (w.setCell (U p 2) (.bool b)) p {S with down:=b} fs/\zh (foot p fs) w (w.setCell (U p 2) (.bool b)):=by
 have g:zh (foot p fs) w (w.setCell (U p 2) (.bool b)):=(zh.refl _ _).setCell (fun _=> .inl rfl) _
 have a:zh (fun k=>k=p) w (w.setCell (U p 2) (.bool b)):=(zh.refl (fun k=>k=p) w).setCell (fun _=>rfl) _
 exact⟨⟨by rw[zpM h.head];rfl,h.base,zi h.row a (fun k f c=>h.apart d (c▸f))⟩,g⟩
theorem zw.setLeft(h:zw T e B w p S fs)(c:T≠e)(n:Int):zw T e B (w.setCell (U p 1) (I n)) p {S with left:=n} fs/\zh (foot p fs) w (w.setCell (U p 1) (I n)):=by
 have f:zh (foot p fs) w (w.setCell (U p 1) (I n)):=(zh.refl _ _).setCell (fun _=> .inl rfl) _
 have a:zh (fun k=>k=p) w (w.setCell (U p 1) (I n)):=(zh.refl (fun k=>k=p) w).setCell (fun _=>rfl) _
 exact⟨⟨by rw[zpM h.head];rfl,h.base,zi h.row a (fun k d b=>h.apart c (b▸d))⟩,f⟩
end
theorem vg{a b:Bool}(h:a=b):Ending.returned (.bool a)=.returned (.bool b):=by rw[h]
theorem zdE{k:IntKind}{a b:Int}(h:a=b):Ending.returned (.int k a)=.returned (.int k b):=by rw[h]
theorem jK(B:Nat)(p:Nat)(S:DS)(fs:Value)(w:World)(h:zw 111 113 B w p S fs):
  Calls prog 32 #[(O p)] w fun e w'=>e=.returned (.bool (zo S))/\w'=w:=by
 have d:=h.c1
 have c:=h.c2
 have b:Hid (zo S=(S.down||S.left==0)):=rfl
 cases a:S.down
 ·rw[a]at c
  go_enter func32,ntmps32
  go_wp2
  go_ret
  exact⟨vg (by rw[b.out,a];simp),rfl⟩
 ·rw[a]at c
  go_enter func32,ntmps32
  go_wp2
  go_ret
  exact⟨vg (by rw[b.out,a];simp),rfl⟩
theorem Y3{S:DS}(h:zo S=true):zm S={S with down:=true}:=by simp[zm,h]
theorem zdn{S:DS}(h:zo S=false)(a:0<S.left):zm S={S with left:=S.left-1}:=by simp[zm,h,a]
theorem zdm{S:DS}(h:zo S=false)(a:¬0<S.left):zm S=S:=by simp[zm,h,a]
theorem yr(B:Nat)(p:Nat)(S:DS)(fs:Value)(w:World)(m: -1<=S.left/\S.left<=9223372036854775807)(h:zw 111 113 B w p S fs):
  Calls prog 197 #[(O p)] w fun e w'=>e=.returned (.bool (!zo S))/\zw 111 113 B w' p (zm S) fs/\zh (foot p fs) w w':=by
 have l:=h.c1
 have g:=h.c2
 have j:=h.free
 have d:Hid (zo S=(S.down||S.left==0)):=rfl
 cases f:S.down
 ·rw[f]at g
  by_cases c:S.left=0
  ·have b:zo S=true:=by simp[zo,c]
   have k:(S.left==0)=true:=by simp[c]
   have a:=h.setDown (by decide) true
   rw[<-Y3 b]at a
   have a:Hid (_/\_):=a
   have HR:Hid ((!zo S)=false):=by show _=_;rw[b];rfl
   clear d b c h
   go_enter func197,ntmps197
   go_wp2
   go_ret
   exact⟨vg HR.out.symm,a.out⟩
  ·have b:zo S=false:=by simp[zo,c,f]
   have k:(S.left==0)=false:=by simp[c]
   have HR:Hid ((!zo S)=true):=by show _=_;rw[b];rfl
   by_cases i:0<S.left
   ·have a:=h.setLeft (by decide) (S.left-1)
    rw[<-zdn b i]at a
    have a:Hid (_/\_):=a
    clear d b c h
    go_enter func197,ntmps197
    go_wp2
    go_ret
    exact⟨vg HR.out.symm,a.out⟩
   ·have a:Hid (zw 111 113 B w p (zm S) fs):=by show zw _ _ _ _ _ _ _;rw[zdm b i];exact h
    clear d b c h
    go_enter func197,ntmps197
    go_wp2
    go_ret
    exact⟨vg HR.out.symm,a.out,zh.refl _ _⟩
 ·rw[f]at g
  have b:zo S=true:=by simp[zo,f]
  have a:=h.setDown (by decide) true
  rw[<-Y3 b]at a
  have a:Hid (_/\_):=a
  have HR:Hid ((!zo S)=false):=by show _=_;rw[b];rfl
  clear d b h
  go_enter func197,ntmps197
  go_wp2
  go_ret
  exact⟨vg HR.out.symm,a.out⟩
theorem yN(B:Nat)(p:Nat)(S:DS)(fs:Value)(b:ByteArray)(w:World)(N:Nat)(F:N<=1099511627776)(H:S.files.length<=N)(h:zw 111 113 B w p S fs):
  Calls prog 198 #[(O p),.string b] w fun e w'=>e=.returned (I (qC S.files b))/\w'=w:=by
 have D:=h.c0
 obtain⟨a,cap,q⟩:=Yy h.row
 subst q
 go_enter func198,ntmps198
 go_wp2
 go_loop [4,5,11] (fun _ _ y=>∃(k:Nat),k<=S.files.length/\y=I k/\∀j f,j<k->S.files[j]?=some f->eqS f.name b=false) (fun _ _ y=>S.files.length-(intOf y).toNat)
 case atStart=>exact⟨0,Nat.zero_le _,rfl,fun j f r=>absurd r (Nat.not_lt_zero _)⟩
 case round=>
  obtain⟨k,G,rfl,v⟩:=hrel
  have m:=ze v
  clear v
  by_cases s:k<S.files.length
  ·obtain⟨g,u,hv,_,_,_,x⟩:=h.files (by omega)
   cases hv
   obtain⟨f,d⟩:=XO s
   obtain⟨E,_,_⟩:=x k f d
   have t:=ze d
   have C:(k:Int)<S.files.length:=by omega
   clear x d h
   cases c:eqS f.name b
   ·have o:(f.name.toList==b.toList)=false:=c
    have z:=ze c
    clear c
    go_wp2
    go_round
    case rel=>
     refine⟨k+1,by omega,by go_num,fun j A r hj'=>?_⟩
     by_cases e:j=k
     ·subst e;rw[ud t]at hj';cases hj';exact ud z
     ·exact ud m j A (by omega) hj'
    case measure=>simp[intOf];omega
   ·have i:=(zcN (ud t) c (ud m)).2
    have n:=ze i
    have o:(f.name.toList==b.toList)=true:=c
    clear i c
    go_wp2
    go_ret
    exact⟨zdE (ud n).symm,rfl⟩
  ·have i:=(zcM (l:=S.files) (name:=b) (fun j f r d=>ud m j f (by omega) d)).2
   have n:=ze i
   clear i
   go_wp2
   go_ret
   exact⟨zdE (ud n).symm,rfl⟩
end Go.Proofs.YtndhpgciopcncaaGreatDoor
