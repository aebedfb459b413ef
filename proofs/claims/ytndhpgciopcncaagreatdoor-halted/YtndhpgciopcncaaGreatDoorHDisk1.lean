import Derived.Test.YtndhpgciopcncaaGreatDoorRows
import Derived.Test.YtndhpgciopcncaaGreatDoorHLater
import Derived.Test.YtndhpgciopcncaaGreatDoorHDisk0
import Derived.WalkKit
import Derived.WalkSpells
import Derived.WalkLawsBesides
set_option linter.unusedVariables false
set_option maxHeartbeats 1000000
open Go.Proofs.Tryz
namespace Go.Proofs.YtndhpgciopcncaaGreatDoor
open Go.RowKit
variable {cs:Array Value} {S:DS} {g:Nat} {fr:Nat×Nat} {w w':World}
structure zx(T e:TypeId)(B:Nat)(w:World)(p:Nat)(S:DS)(fs:Value):Prop where
 head:w.1[p]?=some (.cells #[fs,I S.left,.bool S.down] T (0,0))
 base:B<=p
 row:w.ownsRow B e 3 fs S.files.length (zK S.files)
theorem xT{t:TypeId}(h:w.1[g]?=some (.cells cs t fr))(i:Nat):w.cell? (U g i)=cs[i]?:=by simp[World.cell?,h]
theorem JF{t:TypeId}(h:w.1[g]?=some (.cells cs t (0,0)))(i:Nat):w.frozen? (U g i)=false:=by simp[World.frozen?,h]
theorem zqu{i:Nat}{t:TypeId}(h:w.1[g]?=some (.cells cs t fr))(v:Value):(w.setCell (U g i) v).1[g]?=some (.cells (cs.setIfInBounds i v) t fr):=by
 rw[setCell_eq_setRow w g i cs t fr v h];exact setRow_heap w g _ _ t _ h
section
variable {T e:TypeId} {B:Nat} {w:World} {p:Nat} {S:DS} {fs:Value}
theorem zx.c0(h:zx T e B w p S fs):w.cell? (U p 0)=some fs:=by rw[xT h.head];rfl
theorem zx.c1(h:zx T e B w p S fs):w.cell? (U p 1)=some (I S.left):=by rw[xT h.head];rfl
theorem zx.c2(h:zx T e B w p S fs):w.cell? (U p 2)=some (.bool S.down):=by rw[xT h.head];rfl
theorem zx.free(h:zx T e B w p S fs)(i:Nat):w.frozen? (U p i)=false:=JF h.head i
def foot(p:Nat)(fs:Value)(k:Nat):Prop:=k=p\/fs.ownBlock=some k
theorem zx.apart(h:zx T e B w p S fs)(c:T≠e):fs.ownBlock≠some p:=fun d=>by
 obtain⟨b,a⟩:=zH h.row d;rw[h.head]at a;injection a with a;injection a with _ a;exact c a
theorem zx.kept{f:Nat->Prop}(h:zx T e B w p S fs)(a:zi f w w')(hn:∀k,foot p fs k->¬f k):zx T e B w' p S fs:=
 ⟨a.heap h.head (hn p (.inl rfl)),h.base,zh h.row a (fun k b=>hn k (.inr b))⟩
theorem zx.later(h:zx T e B w p S fs)(a:Below w.1.size w w'):zx T e B w' p S fs:=
 h.kept (f:=fun _=>False) (zi.of_below a) (fun _ _ b=>b)
theorem zx.lt(h:zx T e B w p S fs):p<w.1.size:=zd h.head
theorem zx.files(h:zx T e B w p S fs)(hn:0<S.files.length):∃g cap,fs=.slice (some (U g 0)) S.files.length cap/\B<=g/\g<w.1.size/\(∀j,w.frozen? (U g j)=false)/\
  ∀i f,S.files[i]?=some f->w.cell? (U g (i*3))=some (.string f.name)/\w.cell? (U g (i*3+1))=some (.string f.data)/\w.cell? (U g (i*3+2))=some (I f.safe):=by
 obtain⟨g,cap,hv,d,c⟩:=h.row.form hn;have a:=h.row;rw[hv]at a;refine⟨g,cap,hv,d,c,fun j=>a.frozenAt j,fun i f b=>?_⟩;have k:i<S.files.length:=(List.getElem?_eq_some_iff.1 b).1;refine⟨?_,?_,?_⟩
 ·rw[a.cellAt _ (by omega),Ka _ _ _ b]
 ·rw[a.cellAt _ (by omega),Kc _ _ _ b]
 ·rw[a.cellAt _ (by omega),Kd _ _ _ b]
theorem YI(h:w.ownsRow B e 3 fs S.files.length (zK S.files)):∃a cap,fs=.slice a S.files.length cap:=by
 rcases h.2 with⟨b,c⟩|⟨g,cap,_,b,_⟩
 ·exact⟨none,0,by rw[b,c]⟩
 ·exact⟨_,cap,b⟩
theorem zx.setDown(h:zx T e B w p S fs)(d:T≠e)(b:Bool):zx T e B (w.setCell (U p 2) (.bool b)) p {S with down:=b} fs/\zi (foot p fs) w (w.setCell (U p 2) (.bool b)):=by
 have g:zi (foot p fs) w (w.setCell (U p 2) (.bool b)):=(zi.refl _ _).setCell (fun _=> .inl rfl) _;have a:zi (fun k=>k=p) w (w.setCell (U p 2) (.bool b)):=(zi.refl (fun k=>k=p) w).setCell (fun _=>rfl) _;exact⟨⟨by rw[zqu h.head];rfl,h.base,zh h.row a (fun k f c=>h.apart d (c▸f))⟩,g⟩
theorem zx.setLeft(h:zx T e B w p S fs)(c:T≠e)(n:Int):zx T e B (w.setCell (U p 1) (I n)) p {S with left:=n} fs/\zi (foot p fs) w (w.setCell (U p 1) (I n)):=by
 have f:zi (foot p fs) w (w.setCell (U p 1) (I n)):=(zi.refl _ _).setCell (fun _=> .inl rfl) _;have a:zi (fun k=>k=p) w (w.setCell (U p 1) (I n)):=(zi.refl (fun k=>k=p) w).setCell (fun _=>rfl) _;exact⟨⟨by rw[zqu h.head];rfl,h.base,zh h.row a (fun k d b=>h.apart c (b▸d))⟩,f⟩
end
theorem vA{a b:Bool}(h:a=b):Ending.returned (.bool a)=.returned (.bool b):=by rw[h]
theorem zee{k:IntKind}{a b:Int}(h:a=b):Ending.returned (.int k a)=.returned (.int k b):=by rw[h]
theorem vJ(B:Nat)(p:Nat)(S:DS)(fs:Value)(w:World)(h:zx 111 113 B w p S fs):
  Calls prog 32 #[(O p)] w fun e w'=>e=.returned (.bool (zj S))/\w'=w:=by
 have d:=h.c1;have c:=h.c2;have b:Hid (zj S=(S.down||S.left==0)):=rfl;cases a:S.down
 ·rw[a]at c;go_enter func32,ntmps32;go_wp2;go_ret;exact⟨vA (by rw[b.out,a];simp),rfl⟩
 ·rw[a]at c;go_enter func32,ntmps32;go_wp2;go_ret;exact⟨vA (by rw[b.out,a];simp),rfl⟩
theorem Yc(h:zj S=true):zm S={S with down:=true}:=by simp[zm,h]
theorem zdM(h:zj S=false)(a:0<S.left):zm S={S with left:=S.left-1}:=by simp[zm,h,a]
theorem zdL(h:zj S=false)(a:¬0<S.left):zm S=S:=by simp[zm,h,a]
theorem yD(B:Nat)(p:Nat)(S:DS)(fs:Value)(w:World)(m: -1<=S.left/\S.left<=9223372036854775807)(h:zx 111 113 B w p S fs):
  Calls prog 197 #[(O p)] w fun e w'=>e=.returned (.bool (!zj S))/\zx 111 113 B w' p (zm S) fs/\zi (foot p fs) w w':=by
 have l:=h.c1;have g:=h.c2;have j:=h.free;have d:Hid (zj S=(S.down||S.left==0)):=rfl;cases f:S.down
 ·rw[f]at g;by_cases c:S.left=0
  ·have b:zj S=true:=(by simp[zj,c]);have k:(S.left==0)=true:=(by simp[c]);have a:=h.setDown (by decide) true;rw[<-Yc b]at a;have a:Hid (_/\_):=a;have HR:Hid ((!zj S)=false):=(by show _=_;rw[b];rfl);clear d b c h;go_enter func197,ntmps197;go_wp2;go_ret;exact⟨vA HR.out.symm,a.out⟩
  ·have b:zj S=false:=(by simp[zj,c,f]);have k:(S.left==0)=false:=(by simp[c]);have HR:Hid ((!zj S)=true):=(by show _=_;rw[b];rfl);by_cases i:0<S.left
   ·have a:=h.setLeft (by decide) (S.left-1);rw[<-zdM b i]at a;have a:Hid (_/\_):=a;clear d b c h;go_enter func197,ntmps197;go_wp2;go_ret;exact⟨vA HR.out.symm,a.out⟩
   ·have a:Hid (zx 111 113 B w p (zm S) fs):=(by show zx _ _ _ _ _ _ _;rw[zdL b i];exact h);clear d b c h;go_enter func197,ntmps197;go_wp2;go_ret;exact⟨vA HR.out.symm,a.out,zi.refl _ _⟩
 ·rw[f]at g;have b:zj S=true:=by simp[zj,f]
  have a:=h.setDown (by decide) true;rw[<-Yc b]at a;have a:Hid (_/\_):=a;have HR:Hid ((!zj S)=false):=by show _=_;rw[b];rfl
  clear d b h;go_enter func197,ntmps197;go_wp2;go_ret;exact⟨vA HR.out.symm,a.out⟩
theorem yW(B:Nat)(p:Nat)(S:DS)(fs:Value)(nm:ByteArray)(w:World)(N:Nat)(E:N<=1099511627776)(G:S.files.length<=N)(h:zx 111 113 B w p S fs):
  Calls prog 198 #[(O p),.string nm] w fun e w'=>e=.returned (I (qN S.files nm))/\w'=w:=by
 have C:=h.c0;obtain⟨a,cap,o⟩:=YI h.row;subst o;go_enter func198,ntmps198;go_wp2
 go_loop [4,5,11] (fun _ _ y=>∃(k:Nat),k<=S.files.length/\y=I k/\∀j f,j<k->S.files[j]?=some f->eqS f.name nm=false) (fun _ _ y=>S.files.length-(intOf y).toNat)
 case atStart=>exact⟨0,Nat.zero_le _,rfl,fun j f q=>absurd q (Nat.not_lt_zero _)⟩
 case round=>
  obtain⟨k,F,rfl,u⟩:=hrel;have i:=ze u;clear u;by_cases r:k<S.files.length
  ·obtain⟨g,t,hv,_,_,_,v⟩:=h.files (by omega);cases hv;obtain⟨f,c⟩:=XY r;obtain⟨D,_,_⟩:=v k f c;have s:=ze c;have A:(k:Int)<S.files.length:=(by omega);clear v c h;cases b:eqS f.name nm
   ·have n:(f.name.toList==nm.toList)=false:=b;have x:=ze b;clear b;go_wp2
    go_round
    case rel=>
     refine⟨k+1,by omega,by go_num,fun j z q hj'=>?_⟩;by_cases e:j=k
     ·subst e;rw[ud s]at hj';cases hj';exact ud x
     ·exact ud i j z (by omega) hj'
    case measure=>simp[intOf];omega
   ·have d:=(zdv (ud s) b (ud i)).2;have m:=ze d;have n:(f.name.toList==nm.toList)=true:=b;clear d b;go_wp2;go_ret;exact⟨zee (ud m).symm,rfl⟩
  ·have d:=(zdu (l:=S.files) (name:=nm) (fun j f q c=>ud i j f (by omega) c)).2;have m:=ze d;clear d;go_wp2;go_ret;exact⟨zee (ud m).symm,rfl⟩
end Go.Proofs.YtndhpgciopcncaaGreatDoor
