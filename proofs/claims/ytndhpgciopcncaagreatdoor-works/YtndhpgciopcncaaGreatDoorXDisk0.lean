import Derived.Test.YtndhpgciopcncaaGreatDoorXAbb
import Derived.Test.YtndhpgciopcncaaGreatDoorRows
import Derived.WalkSpells
import Derived.WalkLawsBesides
import Derived.Deep.WholeRow
open Option renaming some → J
open Go renaming Value → K
open Go renaming World → E
open Option renaming none → Y
open Go.RowKit.Below renaming refl → Z
set_option linter.unusedVariables false
set_option maxHeartbeats 2000000
open Go.Proofs.Tryz
namespace Go.Proofs.YtndhpgciopcncaaGreatDoor
open Go.RowKit
variable {cs:Array K} {dt name new nm old:ByteArray} {xs:List K} {B base cap g i k n size:Nat} {fr:Nat×Nat} {v:K} {w w':E}
structure FS where
 name:ByteArray
 data:ByteArray
 safe:Nat
structure DS where
 files:List FS
 left:Int
 down:Bool
def zZ:List FS->List K
 |[]=>[]
 |f::r=> .string f.name:: .string f.data::I f.safe::zZ r
theorem Z9:∀(l r:List FS),zZ (l++r)=zZ l++zZ r
 |[],_=>rfl
 |f::l,r=>by simp[zZ,Z9 l r]
theorem Kj:∀(l:List FS) (i:Nat) (f:FS),l[i]?=J f->(zZ l)[i*3]?=J (.string f.name)
 |[],i,f,h=>by simp at h
 |g::r,0,f,h=>by simp at h;subst h;rfl
 |g::r,i+1,f,h=>by
  have:=Kj r i f (by simpa using h);rw[show(i+1)*3=i*3+1+1+1 by omega];simpa[zZ]using this
theorem Kk:∀(l:List FS) (i:Nat) (f:FS),l[i]?=J f->(zZ l)[i*3+1]?=J (.string f.data)
 |[],i,f,h=>by simp at h
 |g::r,0,f,h=>by simp at h;subst h;rfl
 |g::r,i+1,f,h=>by
  have:=Kk r i f (by simpa using h);rw[show(i+1)*3+1=i*3+1+1+1+1 by omega];simpa[zZ]using this
theorem Kl:∀(l:List FS) (i:Nat) (f:FS),l[i]?=J f->(zZ l)[i*3+2]?=J (I f.safe)
 |[],i,f,h=>by simp at h
 |g::r,0,f,h=>by simp at h;subst h;rfl
 |g::r,i+1,f,h=>by
  have:=Kl r i f (by simpa using h);rw[show(i+1)*3+2=i*3+2+1+1+1 by omega];simpa[zZ]using this
theorem Xd:∀(l:List FS) (i:Nat) (f:FS) (d:ByteArray),l[i]?=J f->zZ (l.set i {f with data:=d})=(zZ l).set (i*3+1) (.string d)
 |[],i,f,d,h=>by simp at h
 |g::r,0,f,d,h=>by simp at h;subst h;simp[zZ]
 |g::r,i+1,f,d,h=>by
  have:=Xd r i f d (by simpa using h);rw[show(i+1)*3+1=i*3+1+1+1+1 by omega];simp[zZ,this]
theorem Xe:∀(l:List FS) (i:Nat) (f:FS) (d:Nat),l[i]?=J f->zZ (l.set i {f with safe:=d})=(zZ l).set (i*3+2) (I d)
 |[],i,f,d,h=>by simp at h
 |g::r,0,f,d,h=>by simp at h;subst h;simp[zZ]
 |g::r,i+1,f,d,h=>by
  have:=Xe r i f d (by simpa using h);rw[show(i+1)*3+2=i*3+2+1+1+1 by omega];simp[zZ,this]
def eqS(a b:ByteArray):Bool:=a.toList==b.toList
def xx(name:ByteArray):Nat->List FS->Option Nat
 |_,[]=>Y
 |k,f::r=>if eqS f.name name then J k else xx name (k+1) r
def xS(l:List FS)(name:ByteArray):Option Nat:=xx name 0 l
def qJ(l:List FS)(name:ByteArray):Int:=match xS l name with|some i=>i|none=> -1
theorem Xj(name:ByteArray):∀(k:Nat) (l:List FS),(∀f∈l,(eqS f.name name)=false)->xx name k l=Y
 |_,[],_=>rfl
 |k,f::r,h=>by
  rw[xx,h f (by simp)];simpa using Xj name (k+1) r (fun g a=>h g (by simp[a]))
theorem Xk(name:ByteArray):∀(k:Nat) (l:List FS) (i:Nat) (f:FS),l[i]?=J f->(eqS f.name name)=true->(∀j g,j<i->l[j]?=J g->(eqS g.name name)=false)->xx name k l=J (k+i)
 |_,[],i,f,h,_,_=>by simp at h
 |k,g::r,0,f,h,a,_=>by simp at h;subst h;rw[xx,a];rfl
 |k,g::r,i+1,f,h,a,hn=>by
  rw[xx,hn 0 g (by omega) rfl];have:=Xk name (k+1) r i f (by simpa using h) a (fun j b d c=>hn (j+1) b (by omega) (by simpa using c));simp only[Bool.false_eq_true,if_false];rw[this];congr 1;omega
variable {l:List FS}
theorem zdz(h:∀j f,j<l.length->l[j]?=J f->(eqS f.name name)=false):xS l name=Y/\qJ l name= -1:=by
 have:xS l name=Y:=Xj name 0 l (fun f b=>by
  obtain⟨j,a⟩:=List.getElem?_of_mem b;exact h j f (List.getElem?_eq_some_iff.1 a).1 a)
 exact⟨this,by simp[qJ,this]⟩
variable {f:FS}
theorem zdA(h:l[i]?=J f)(a:(eqS f.name name)=true)(hn:∀j g,j<i->l[j]?=J g->(eqS g.name name)=false):xS l name=J i/\qJ l name=i:=by
 have:xS l name=J i:=by have:=Xk name 0 l i f h a hn;simpa[xS]using this
 exact⟨this,by simp[qJ,this]⟩
theorem Yj(name:ByteArray):∀(k:Nat) (l:List FS) (i:Nat),xx name k l=J i->k<=i/\∃f,l[i-k]?=J f/\(eqS f.name name)=true
 |_,[],i,h=>by cases h
 |k,f::r,i,h=>by
  rw[xx]at h;by_cases e:(eqS f.name name)=true
  ·rw[if_pos e]at h;cases h;exact⟨Nat.le_refl _,f,by simp,e⟩
  ·rw[if_neg e]at h;obtain⟨c,g,a,b⟩:=Yj name (k+1) r i h;refine⟨by omega,g,?_,b⟩;rw[show i-k=(i-(k+1))+1 by omega];simpa using a
theorem kF(h:xS l name=J i):∃f,l[i]?=J f/\i<l.length/\(eqS f.name name)=true:=by
 obtain⟨_,f,a,b⟩:=Yj name 0 l i h;exact⟨f,a,(List.getElem?_eq_some_iff.1 a).1,b⟩
theorem Ko(h:k<l.length):∃f,l[k]?=J f:=⟨_,List.getElem?_eq_getElem h⟩
def zt(S:DS):Bool:=S.down||S.left==0
def zr(S:DS):DS:=if zt S then{S with down:=true}else{S with left:=if 0<S.left then S.left-1 else S.left}
def JG(S:DS)(name data:ByteArray):DS:=
 match xS S.files name with
 |some i=>{S with files:=match S.files[i]? with|some f=>S.files.set i {f with data:=f.data++data}|none=>S.files}
 |none=>{S with files:=S.files++[⟨name,data,0⟩]}
def zkn(S:DS)(name:ByteArray):DS:=
 match xS S.files name with
 |some i=>{S with files:=match S.files[i]? with|some f=>S.files.set i {f with safe:=f.data.size}|none=>S.files}
 |none=>S
def XN(l:List FS)(name:ByteArray):List FS:=l.filter fun f=>!eqS f.name name
def zay(S:DS)(old new:ByteArray):DS:=
 match xS S.files old with
 |some i=>if eqS old new then S else{S with files:=match S.files[i]? with|some f=>XN (XN S.files old) new++[{f with name:=new}]|none=>S.files}
 |none=>S
def zdG(S:DS)(name:ByteArray):DS:={S with files:=XN S.files name}
def Ys(S:DS)(n:Int):DS:=if zt S then S else{S with left:=if n<0 then-1 else n}
def leftOf(a:Int)(f:FS):FS:=
 let n:=if a<(f.data.size:Int)-f.safe then(if a<0 then 0 else a.toNat)else f.data.size-f.safe
 ⟨f.name,f.data.extract 0 (f.safe+n),(f.data.extract 0 (f.safe+n)).size⟩
def DOk(S:DS)(N:Nat):Prop:= -1<=S.left/\S.left<=9223372036854775807/\S.files.length<=N/\∀f∈S.files,f.safe<=f.data.size/\f.data.size<=N
structure zM(T e:TypeId)(B:Nat)(w:E)(p:Nat)(S:DS)(fs:K):Prop where
 head:w.1[p]?=J (.cells #[fs,I S.left,.bool S.down] T (0,0))
 base:B<=p
 row:w.ownsRow B e 3 fs S.files.length (zZ S.files)
theorem qv{t:TypeId}(h:w.1[g]?=J (.cells cs t fr))(i:Nat):w.cell? (U g i)=cs[i]?:=by simp[World.cell?,h]
theorem JN{t:TypeId}(h:w.1[g]?=J (.cells cs t (0,0)))(i:Nat):w.frozen? (U g i)=false:=by simp[World.frozen?,h]
theorem zpU{t:TypeId}(h:w.1[g]?=J (.cells cs t fr))(v:K):(w.setCell (U g i) v).1[g]?=J (.cells (cs.setIfInBounds i v) t fr):=by
 rw[setCell_eq_setRow w g i cs t fr v h];exact setRow_heap w g _ _ t _ h
section
variable {T e:TypeId} {B:Nat} {w:E} {p:Nat} {S:DS} {fs:K}
theorem zM.c0(h:zM T e B w p S fs):w.cell? (U p 0)=J fs:=by rw[qv h.head];rfl
theorem zM.c1(h:zM T e B w p S fs):w.cell? (U p 1)=J (I S.left):=by rw[qv h.head];rfl
theorem zM.c2(h:zM T e B w p S fs):w.cell? (U p 2)=J (.bool S.down):=by rw[qv h.head];rfl
theorem zM.free(h:zM T e B w p S fs)(i:Nat):w.frozen? (U p i)=false:=JN h.head i
def foot(p:Nat)(fs:K)(k:Nat):Prop:=k=p\/fs.ownBlock=J k
theorem zM.apart(h:zM T e B w p S fs)(c:T≠e):fs.ownBlock≠J p:=fun d=>by
 obtain⟨b,a⟩:=zG h.row d;rw[h.head]at a;injection a with a;injection a with _ a;exact c a
theorem zM.kept{f:Nat->Prop}(h:zM T e B w p S fs)(a:zj f w w')(hn:∀k,foot p fs k->¬f k):zM T e B w' p S fs:=
 ⟨a.heap h.head (hn p (.inl rfl)),h.base,zi h.row a (fun k b=>hn k (.inr b))⟩
theorem zM.later(h:zM T e B w p S fs)(a:B_ w w'):zM T e B w' p S fs:=
 h.kept (f:=fun _=>False) (zj.of_below a) (fun _ _ b=>b)
theorem zM.lt(h:zM T e B w p S fs):p<w.1.size:=zd h.head
theorem zM.files(h:zM T e B w p S fs)(hn:0<S.files.length):∃g cap,fs=.slice (J (U g 0)) S.files.length cap/\B<=g/\g<w.1.size/\(∀j,w.frozen? (U g j)=false)/\
  ∀i f,S.files[i]?=J f->w.cell? (U g (i*3))=J (.string f.name)/\w.cell? (U g (i*3+1))=J (.string f.data)/\w.cell? (U g (i*3+2))=J (I f.safe):=by
 obtain⟨g,cap,hv,d,c⟩:=h.row.form hn;have a:=h.row;rw[hv]at a;refine⟨g,cap,hv,d,c,fun j=>a.frozenAt j,fun i f b=>?_⟩;have k:i<S.files.length:=(List.getElem?_eq_some_iff.1 b).1;refine⟨?_,?_,?_⟩
 ·rw[a.cellAt _ (by omega),Kj _ _ _ b]
 ·rw[a.cellAt _ (by omega),Kk _ _ _ b]
 ·rw[a.cellAt _ (by omega),Kl _ _ _ b]
theorem zaJ(h:w.ownsRow B e 3 fs S.files.length (zZ S.files)):∃a cap,fs=.slice a S.files.length cap:=by
 rcases h.2 with⟨b,c⟩|⟨g,cap,_,b,_⟩
 ·exact⟨Y,0,by rw[b,c]⟩
 ·exact⟨_,cap,b⟩
theorem zM.setDown(h:zM T e B w p S fs)(d:T≠e)(b:Bool):zM T e B (w.setCell (U p 2) (.bool b)) p {S with down:=b} fs/\zj (foot p fs) w (w.setCell (U p 2) (.bool b)):=by
 have g:zj (foot p fs) w (w.setCell (U p 2) (.bool b)):=(zj.refl _ _).setCell (fun _=> .inl rfl) _;have a:zj (fun k=>k=p) w (w.setCell (U p 2) (.bool b)):=(zj.refl (fun k=>k=p) w).setCell (fun _=>rfl) _;exact⟨⟨by rw[zpU h.head];rfl,h.base,zi h.row a (fun k f c=>h.apart d (c▸f))⟩,g⟩
theorem zM.setLeft(h:zM T e B w p S fs)(c:T≠e)(n:Int):zM T e B (w.setCell (U p 1) (I n)) p {S with left:=n} fs/\zj (foot p fs) w (w.setCell (U p 1) (I n)):=by
 have f:zj (foot p fs) w (w.setCell (U p 1) (I n)):=(zj.refl _ _).setCell (fun _=> .inl rfl) _;have a:zj (fun k=>k=p) w (w.setCell (U p 1) (I n)):=(zj.refl (fun k=>k=p) w).setCell (fun _=>rfl) _;exact⟨⟨by rw[zpU h.head];rfl,h.base,zi h.row a (fun k d b=>h.apart c (b▸d))⟩,f⟩
end
theorem vM{a b:Bool}(h:a=b):Ending.returned (.bool a)=.returned (.bool b):=by rw[h]
theorem zeo{k:IntKind}{a b:Int}(h:a=b):Ending.returned (.int k a)=.returned (.int k b):=by rw[h]
theorem yH(B:Nat)(p:Nat)(S:DS)(fs:K)(w:E)(h:zM 111 113 B w p S fs):
  Calls prog 32 #[(O p)] w fun e w'=>e=.returned (.bool (zt S))/\w'=w:=by
 have d:=h.c1;have c:=h.c2;have b:Hid (zt S=(S.down||S.left==0)):=rfl;cases a:S.down
 ·rw[a]at c;go_in;go_wp2;go_ret;exact⟨vM (by rw[b.out,a];simp),rfl⟩
 ·rw[a]at c;go_in;go_wp2;go_ret;exact⟨vM (by rw[b.out,a];simp),rfl⟩
variable {S:DS}
theorem Yr(h:zt S=true):zr S={S with down:=true}:=by simp[zr,h]
theorem zdS(h:zt S=false)(a:0<S.left):zr S={S with left:=S.left-1}:=by simp[zr,h,a]
theorem zdR(h:zt S=false)(a:¬0<S.left):zr S=S:=by simp[zr,h,a]
theorem yD(B:Nat)(p:Nat)(S:DS)(fs:K)(w:E)(m: -1<=S.left/\S.left<=9223372036854775807)(h:zM 111 113 B w p S fs):
  Calls prog 197 #[(O p)] w fun e w'=>e=.returned (.bool (!zt S))/\zM 111 113 B w' p (zr S) fs/\zj (foot p fs) w w':=by
 have l:=h.c1;have g:=h.c2;have j:=h.free;have d:Hid (zt S=(S.down||S.left==0)):=rfl;cases f:S.down
 ·rw[f]at g;by_cases c:S.left=0
  ·have b:zt S=true:=(by simp[zt,c]);have k:(S.left==0)=true:=(by simp[c]);have a:=h.setDown (by decide) true;rw[<-Yr b]at a;have a:Hid (_/\_):=a;have HR:Hid ((!zt S)=false):=(by show _=_;rw[b];rfl);clear d b c h;go_in;go_wp2;go_ret;exact⟨vM HR.out.symm,a.out⟩
  ·have b:zt S=false:=(by simp[zt,c,f]);have k:(S.left==0)=false:=(by simp[c]);have HR:Hid ((!zt S)=true):=(by show _=_;rw[b];rfl);by_cases i:0<S.left
   ·have a:=h.setLeft (by decide) (S.left-1);rw[<-zdS b i]at a;have a:Hid (_/\_):=a;clear d b c h;go_in;go_wp2;go_ret;exact⟨vM HR.out.symm,a.out⟩
   ·have a:Hid (zM 111 113 B w p (zr S) fs):=(by show zM _ _ _ _ _ _ _;rw[zdR b i];exact h);clear d b c h;go_in;go_wp2;go_ret;exact⟨vM HR.out.symm,a.out,zj.refl _ _⟩
 ·rw[f]at g;have b:zt S=true:=by simp[zt,f]
  have a:=h.setDown (by decide) true;rw[<-Yr b]at a;have a:Hid (_/\_):=a;have HR:Hid ((!zt S)=false):=by show _=_;rw[b];rfl
  clear d b h;go_in;go_wp2;go_ret;exact⟨vM HR.out.symm,a.out⟩
theorem yS(B:Nat)(p:Nat)(S:DS)(fs:K)(nm:ByteArray)(w:E)(N:Nat)(G:N<=1099511627776)(L:S.files.length<=N)(h:zM 111 113 B w p S fs):
  Calls prog 198 #[(O p),.string nm] w fun e w'=>e=.returned (I (qJ S.files nm))/\w'=w:=by
 have D:=h.c0;obtain⟨a,cap,q⟩:=zaJ h.row;subst q;go_in;go_wp2
 go_loop [4,5,11] (fun _ _ y=>∃(k:Nat),k<=S.files.length/\y=I k/\∀j f,j<k->S.files[j]?=J f->eqS f.name nm=false) (fun _ _ y=>S.files.length-(intOf y).toNat)
 case atStart=>exact⟨0,Nat.zero_le _,rfl,fun j f r=>absurd r (Nat.not_lt_zero _)⟩
 case round=>
  obtain⟨k,H,rfl,v⟩:=hrel;have m:=ze v;clear v;by_cases s:k<S.files.length
  ·obtain⟨g,u,hv,_,_,_,x⟩:=h.files (by omega);cases hv;obtain⟨f,d⟩:=Ko s;obtain⟨F,_,_⟩:=x k f d;have t:=ze d;have C:(k:Int)<S.files.length:=(by omega);clear x d h;cases c:eqS f.name nm
   ·have o:(f.name.toList==nm.toList)=false:=c;have z:=ze c;clear c;go_wp2
    go_round
    case rel=>
     refine⟨k+1,by omega,by go_num,fun j A r b=>?_⟩;by_cases e:j=k
     ·subst e;rw[ud t]at b;cases b;exact z
     ·exact ud m j A (by omega) b
    case measure=>simp[intOf];omega
   ·have i:=(zdA t c m).2;have n:=ze i;have o:(f.name.toList==nm.toList)=true:=c;clear i c;go_wp2;go_ret;exact⟨zeo n.symm,rfl⟩
  ·have i:=(zdz (l:=S.files) (name:=nm) (fun j f r d=>ud m j f (by omega) d)).2;have n:=ze i;clear i;go_wp2;go_ret;exact⟨zeo n.symm,rfl⟩
theorem Tryz.infoFile:(prog.info? 113).map (fun i=>(i.zero,i.size,i.bytes))=J (J (.agg #[.string ByteArray.empty,.string ByteArray.empty,I 0]),3,40):=by kernel_rfl
section
variable {T e:TypeId} {B:Nat} {w:E} {p:Nat} {S:DS} {fs:K}
theorem zM.at(h:zM T e B w p S (.slice (J (U g 0)) n cap))(c:S.files[i]?=J f):
  w.cell? (U g (i*3))=J (.string f.name)/\w.cell? (U g (i*3+1))=J (.string f.data)/\w.cell? (U g (i*3+2))=J (I f.safe)/\(∀j,w.frozen? (U g j)=false):=by
 obtain⟨l,b,hv,_,_,k,d⟩:=h.files (by have:=(List.getElem?_eq_some_iff.1 c).1;omega);injection hv with a m o;injection a with a;injection a with a;subst a;obtain⟨x,y,z⟩:=d i f c;exact⟨x,y,z,k⟩
theorem zM.setData(h:zM T e B w p S fs)(l:T≠e)(a:fs=.slice (J (U g 0)) S.files.length cap)(m:S.files[i]?=J f)(d:ByteArray):
  zM T e B (w.setCell (U g (i*3+1)) (.string d)) p {S with files:=S.files.set i {f with data:=d}} fs/\zj (foot p fs) w (w.setCell (U g (i*3+1)) (.string d)):=by
 have c:fs.ownBlock=J g:=by rw[a];rfl
 have b:p≠g:=fun e=>h.apart l (e▸c);have j:=h.row;rw[a]at j;have k:=j.stored (i*3+1) (.string d);rw[<-Xd _ _ _ d m]at k;refine⟨⟨?_,h.base,?_⟩,(zj.refl (foot p fs) w).setCell (fun _=> .inr c) _⟩
 ·rw[Below.heap_setCell _ _ _ _ b];exact h.head
 ·rw[a];simpa using k.1
theorem zM.setSafe(h:zM T e B w p S fs)(l:T≠e)(a:fs=.slice (J (U g 0)) S.files.length cap)(m:S.files[i]?=J f)(d:Nat):
  zM T e B (w.setCell (U g (i*3+2)) (I d)) p {S with files:=S.files.set i {f with safe:=d}} fs/\zj (foot p fs) w (w.setCell (U g (i*3+2)) (I d)):=by
 have c:fs.ownBlock=J g:=by rw[a];rfl
 have b:p≠g:=fun e=>h.apart l (e▸c);have j:=h.row;rw[a]at j;have k:=j.stored (i*3+2) (I d);rw[<-Xe _ _ _ d m]at k;refine⟨⟨?_,h.base,?_⟩,(zj.refl (foot p fs) w).setCell (fun _=> .inr c) _⟩
 ·rw[Below.heap_setCell _ _ _ _ b];exact h.head
 ·rw[a];simpa using k.1
theorem zM.setFiles{w0:E}(h:zM T e B w0 p S fs)(m:T≠e)(n:zj (foot p fs) w0 w)(o:w.1[p]?=w0.1[p]?){c:K}(a:w.ownsRow B e 3 c l.length (zZ l)):
  zM T e B (w.setCell (U p 0) c) p {S with files:=l} c/\zj (foot p fs) w0 (w.setCell (U p 0) c):=by
 have i:w.1[p]?=J (.cells #[fs,I S.left,.bool S.down] T (0,0)):=o.trans h.head;have d:zj (fun k=>k=p) w (w.setCell (U p 0) c):=(zj.refl (fun k=>k=p) w).setCell (fun _=>rfl) _;refine⟨⟨by rw[zpU i];rfl,h.base,zi a d (fun k f g=>?_)⟩,n.setCell (fun _=> .inl rfl) _⟩;subst g;obtain⟨j,b⟩:=zG a f;rw[i]at b;injection b with b;injection b with _ b;exact m b
end
def zS(S:DS)(name data:ByteArray):DS:=if zt S then zr S else JG (zr S) name data
theorem zy(S:DS):(zr S).files=S.files:=by unfold zr;split<;>rfl
theorem vd(c:zt S=false)(a:xS S.files nm=J i)(b:S.files[i]?=J f):zS S nm dt={zr S with files:=(zr S).files.set i {f with data:=f.data++dt}}:=by
 simp[zS,c,JG,zy,a,b]
theorem qQ(b:zt S=false)(a:xS S.files nm=Y):zS S nm dt={zr S with files:=(zr S).files++[⟨nm,dt,0⟩]}:=by
 simp[zS,b,JG,zy,a]
theorem vJ(a:zt S=true):zS S nm dt=zr S:=by simp[zS,a]
theorem Vt(B:Nat)(p:Nat)(S:DS)(fs:K)(nm dt:ByteArray)(w:E)(c: -1<=S.left)(d:S.left<=9223372036854775807)(f:zt S=true)(h:zM 111 113 B w p S fs):
  Calls prog 126 #[(O p),.string nm,.string dt] w fun e w'=>e=.returned (.bool false)/\zM 111 113 B w' p (zr S) fs/\zj (foot p fs) w w':=by
 have a:=ze (yD B p S fs w ⟨c,d⟩ h);rw[f]at a;clear f;go_in;go_wp2_with(go_at_call 197;refine a.mono ?_;rintro e w1 ⟨rfl,g,b⟩);go_ret;exact⟨rfl,g,b⟩
theorem zcM(B:Nat)(p:Nat)(S:DS)(fs:K)(nm dt:ByteArray)(w:E)(N:Nat)(y:N<=1099511627776)(s:DOk S N)(A:dt.size<=1099511627776)(v:zt S=false)(i:Nat)(f:FS)(j:xS S.files nm=J i)(n:S.files[i]?=J f)(h:zM 111 113 B w p S fs):
  Calls prog 126 #[(O p),.string nm,.string dt] w fun e w'=>e=.returned (.bool true)/\zM 111 113 B w' p {zr S with files:=(zr S).files.set i {f with data:=f.data++dt}} fs/\zj (foot p fs) w w':=by
 obtain⟨q,r,hn,a⟩:=s;have b:=ze (yD B p S fs w ⟨q,r⟩ h);rw[v]at b;have G:i<S.files.length:=(List.getElem?_eq_some_iff.1 n).1;have H:(i:Int)<S.files.length:=by omega
 have F:¬(i:Int)<0:=by omega
 have C:=(a f (List.mem_of_getElem? n)).2;have k:f.data.size+dt.size<=9223372036854775807:=by omega
 have u:=fun L=>run_string_add_sum (P:=prog) (w:=L) f.data dt k;have m:Hid (qJ (zr S).files nm=i):=by show _=_;simp[qJ,zy,j]
 have c:(zr S).files[i]?=J f:=by rw[zy];exact n
 have t:=ze c;have d:(zr S).files.length<=N:=by rw[zy];exact hn
 have x:Hid (S.files.length=(zr S).files.length):=by show _=_;rw[zy]
 obtain⟨g,cap,rfl,-⟩:=h.files (by omega);clear v j c a;go_in;go_wp2_with(first
  |(go_at_call 197;refine b.mono ?_;rintro e w1 ⟨rfl,l,o⟩;have M:=l.c0;obtain⟨Q,R,T,U⟩:=l.at t)
  |(go_at_call 198;refine(yS B p (zr S) _ nm _ N y d l).mono ?_;rintro e w2 ⟨rfl,rfl⟩;rw[ud m]))
 go_ret;obtain⟨z,I⟩:=l.setData (by decide) (by rw[ud x]) (ud t) (f.data++dt);exact⟨rfl,z,o.trans I (fun _ _ D=>D)⟩
theorem VA(d:ByteArray):(⟨#[]⟩++d:ByteArray)=d:=by
 cases d with
 |mk data=>apply ByteArray.ext;simp
theorem Jn{e:TypeId}(hn:n=l.length)(h:w.ownsRow B e 3 v (n+1) (zZ l++[.string f.name,.string f.data,I f.safe])):w.ownsRow B e 3 v (l++[f]).length (zZ (l++[f])):=by
 subst hn;rw[Z9];simpa[zZ]using h
theorem zcL(B:Nat)(p:Nat)(S:DS)(fs:K)(nm dt:ByteArray)(w:E)(N:Nat)(hN:N<=1099511627776)(H:DOk S N)(a0:dt.size<=1099511627776)(hB:B<=w.1.size)(V:zt S=false)(v:xS S.files nm=Y)(h:zM 111 113 B w p S fs):
  Calls prog 126 #[(O p),.string nm,.string dt] w fun e w'=>e=.returned (.bool true)/\∃q,zM 111 113 B w' p {zr S with files:=(zr S).files++[⟨nm,dt,0⟩]} q/\zj (foot p fs) w w'/\∀k,q.ownBlock=J k->fs.ownBlock=J k\/w.1.size<=k:=by
 obtain⟨F,G,hn,r⟩:=H;have o:=ze (yD B p S fs w ⟨F,G⟩ h);rw[V]at o;have z:Hid (qJ (zr S).files nm= -1):=by show _=_;simp[qJ,zy,v]
 have t:(zr S).files.length<=N:=by rw[zy];exact hn
 have m:Hid ((zr S).files.length=S.files.length):=by show _=_;rw[zy]
 obtain⟨a,d,rfl⟩:=zaJ h.row;have Q:=fun wx=>run_string_add_sum (P:=prog) (w:=wx) ⟨#[]⟩ dt (by show 0+dt.size<=_;omega);clear V v r h;go_in;go_wp2_with(first
  |(at_builtin
    refine zO rfl _ _ 109 rfl B 113 _ 3 40 underlying109 Tryz.infoFile rfl (by decide) (.slice a S.files.length d) S.files.length (zZ (zr S).files) rfl ?hown (U w2.1.size 0) 1 1 [.string nm,.string ⟨#[]⟩,I 0] rfl rfl ?hnews ?h1 (by decide) ?h63 ?hbytes ?hbase ?_
    case hown=>(have:=h1.row;rw[ud m]at this;exact this.alloc _)
    case hnews=>exact World.news_of_block (heap_alloc_last _ _)
    case h1=>(intro u W;simp at W;rcases W with rfl|rfl|rfl<;>rfl)
    case h63=>(simp only[maxLen];omega)
    case hbytes=>omega
    case hbase=>(have:=j.size;simp;omega)
    intro g cap y hown T c b a1
    have L:=h1.lt
    have l:y.1[p]?=w2.1[p]?:=(c.block p (by simp;omega) (fun e=>h1.apart (by decide) e.symm)).trans (Below.heap_alloc _ _ _ L)
    have D:zj (foot p (.slice a S.files.length d)) w2 y:=((zj.refl _ _).alloc _).grown c (fun k C _=> .inr C)
    have x:=Jn (f:=⟨nm,⟨#[]⟩,0⟩) m.symm hown
    obtain⟨A,X⟩:=h1.setFiles (by decide) D l x
    have e0:=A.c0
    obtain⟨e1,e2,e3,e4⟩:=A.at (i:=S.files.length) (f:=⟨nm,⟨#[]⟩,0⟩) (by simp[ud m])
    have d0:y.cell? (U p 0)=_:=(World.cell?_of_block (a:=(U p 0)) l).trans h1.c0
    have d1:y.frozen? (U p 0)=false:=(World.frozen?_of_block (a:=(U p 0)) l).trans (h1.free 0))
  |(go_at_call 197;refine o.mono ?_;rintro e w1 ⟨rfl,h1,j⟩;have c0:=h1.c0)
  |(go_at_call 198;refine(yS B p (zr S) _ nm _ N hN t h1).mono ?_;rintro e w2 ⟨rfl,rfl⟩;rw[ud z]))
 go_ret;obtain⟨M,C⟩:=A.setData (by decide) (g:=g) (cap:=cap) (by simp[ud m]) (i:=S.files.length) (f:=⟨nm,⟨#[]⟩,0⟩) (by simp[ud m]) (⟨#[]⟩++dt);refine⟨rfl,.slice (J (U g 0)) (S.files.length+1) cap,?_,j.trans (X.trans C (fun k R n=>?_)) (fun _ _ n=>n),fun k s=>?_⟩
 ·rw[VA]at M ⊢;have e:((zr S).files++[(⟨nm,⟨#[]⟩,0⟩:FS)]).set S.files.length ⟨nm,dt,0⟩=(zr S).files++[⟨nm,dt,0⟩]:=by
   rw[<-ud m];simp
  rw[<-e];exact M
 ·rcases n with rfl|n
  ·exact .inl rfl
  ·simp[Value.ownBlock]at n;subst n;rcases b with b|b
   ·exact .inr b
   ·simp at b;omega
 ·simp[Value.ownBlock]at s;subst s;rcases b with b|b
  ·exact .inl b
  ·right;have:=j.size;simp at b;omega
theorem QC(B:Nat)(p:Nat)(S:DS)(fs:K)(nm dt:ByteArray)(w:E)(N:Nat)(o:N<=1099511627776)(b:DOk S N)(g:dt.size<=1099511627776)(r:B<=w.1.size)(h:zM 111 113 B w p S fs):
  Calls prog 126 #[(O p),.string nm,.string dt] w fun e w'=>e=.returned (.bool (!zt S))/\∃d,zM 111 113 B w' p (zS S nm dt) d/\zj (foot p fs) w w'/\∀k,d.ownBlock=J k->fs.ownBlock=J k\/w.1.size<=k:=by
 cases c:zt S
 ·cases a:xS S.files nm with
  |none=>rw[qQ c a];exact zcL B p S fs nm dt w N o b g r c a h
  |some i=>
   obtain⟨f,q,_,_⟩:=kF a;rw[vd c a q];exact(zcM B p S fs nm dt w N o b g c i f a q h).mono fun e w' ⟨j,l,m⟩=>⟨j,fs,l,m,fun k n=> .inl n⟩
 ·rw[vJ c];exact(Vt B p S fs nm dt w b.1 b.2.1 c h).mono fun e w' ⟨j,l,m⟩=>⟨j,fs,l,m,fun k n=> .inl n⟩
theorem zM.drew{T e:TypeId}{p:Nat}{fs:K}(h:zM T e B w p S fs):zM T e B w.drew p S fs:=h.later ((Z _ _).drew)
def xN(S:DS)(name:ByteArray):DS:=if zt S then zr S else zkn (zr S) name
theorem qX(c:zt S=false)(a:xS S.files nm=J i)(b:S.files[i]?=J f):xN S nm={zr S with files:=(zr S).files.set i {f with safe:=f.data.size}}:=by
 simp[xN,c,zkn,zy,a,b]
theorem Xb(b:zt S=false)(a:xS S.files nm=Y):xN S nm=zr S:=by
 simp[xN,b,zkn,zy,a]
theorem jD(a:zt S=true):xN S nm=zr S:=by simp[xN,a]
theorem zcp(B:Nat)(p:Nat)(S:DS)(fs:K)(nm:ByteArray)(w:E)(N:Nat)(l:N<=1099511627776)(i:DOk S N)(k:zt S=true)(h:zM 111 113 B w p S fs):
  Calls prog 127 #[(O p),.string nm] w fun e w'=>e=.returned (.bool false)/\zM 111 113 B w' p (zr S) fs/\zj (foot p fs) w w':=by
 obtain⟨f,g,hn,b⟩:=i;have a:=ze (yD B p S fs w ⟨f,g⟩ h);rw[k]at a;have c:(zr S).files.length<=N:=by rw[zy];exact hn
 clear k b;go_in;go_wp2_with(first
  |(go_at_call 197;refine a.mono ?_;rintro e w1 ⟨rfl,j,d⟩)
  |(go_at_call 198;refine(yS B p (zr S) _ nm _ N l c j).mono ?_;rintro e w2 ⟨rfl,rfl⟩))
 go_ret;exact⟨rfl,j,d⟩
theorem zkl(B:Nat)(p:Nat)(S:DS)(fs:K)(nm:ByteArray)(w:E)(N:Nat)(n:N<=1099511627776)(k:DOk S N)(m:zt S=false)(d:xS S.files nm=Y)(h:zM 111 113 B w p S fs):
  Calls prog 127 #[(O p),.string nm] w fun e w'=>e=.returned (.bool true)/\zM 111 113 B w' p (zr S) fs/\zj (foot p fs) w w':=by
 obtain⟨i,j,hn,b⟩:=k;have a:=ze (yD B p S fs w ⟨i,j⟩ h);rw[m]at a;have f:Hid (qJ (zr S).files nm= -1):=by show _=_;simp[qJ,zy,d]
 have c:(zr S).files.length<=N:=by rw[zy];exact hn
 clear m d b;go_in;go_wp2_with(first
  |(go_at_call 197;refine a.mono ?_;rintro e w1 ⟨rfl,l,g⟩)
  |(go_at_call 198;refine(yS B p (zr S) _ nm _ N n c l).mono ?_;rintro e w2 ⟨rfl,rfl⟩;rw[ud f]))
 go_ret;exact⟨rfl,l,g⟩
theorem zkm(B:Nat)(p:Nat)(S:DS)(fs:K)(nm:ByteArray)(w:E)(N:Nat)(v:N<=1099511627776)(q:DOk S N)(t:zt S=false)(i:Nat)(f:FS)(j:xS S.files nm=J i)(s:S.files[i]?=J f)(h:zM 111 113 B w p S fs):
  Calls prog 127 #[(O p),.string nm] w fun e w'=>e=.returned (.bool true)/\zM 111 113 B w' p {zr S with files:=(zr S).files.set i {f with safe:=f.data.size}} fs/\zj (foot p fs) w w':=by
 obtain⟨n,o,hn,b⟩:=q;have a:=ze (yD B p S fs w ⟨n,o⟩ h);rw[t]at a;have A:i<S.files.length:=(List.getElem?_eq_some_iff.1 s).1;have C:(i:Int)<S.files.length:=by omega
 have z:(0:Int)<=(i:Int):=by omega
 have l:Hid (qJ (zr S).files nm=i):=by show _=_;simp[qJ,zy,j]
 have c:(zr S).files[i]?=J f:=by rw[zy];exact s
 have r:=ze c;have d:(zr S).files.length<=N:=by rw[zy];exact hn
 have u:Hid (S.files.length=(zr S).files.length):=by show _=_;rw[zy]
 obtain⟨g,cap,rfl,-⟩:=h.files (by omega);clear t j c b;go_in;go_wp2_with(first
  |(go_at_call 197;refine a.mono ?_;rintro e w1 ⟨rfl,k,m⟩;have F:=k.c0;obtain⟨G,H,I,L⟩:=k.at r)
  |(go_at_call 198;refine(yS B p (zr S) _ nm _ N v d k).mono ?_;rintro e w2 ⟨rfl,rfl⟩;rw[ud l]))
 go_region
 go_wp2;go_ret;obtain⟨x,D⟩:=k.setSafe (by decide) (by rw[ud u]) (ud r) f.data.size;exact⟨rfl,x.drew,m.trans D.drew (fun _ _ y=>y)⟩
theorem zaN(B:Nat)(p:Nat)(S:DS)(fs:K)(nm:ByteArray)(w:E)(N:Nat)(d:N<=1099511627776)(b:DOk S N)(h:zM 111 113 B w p S fs):
  Calls prog 127 #[(O p),.string nm] w fun e w'=>e=.returned (.bool (!zt S))/\zM 111 113 B w' p (xN S nm) fs/\zj (foot p fs) w w':=by
 cases c:zt S
 ·cases a:xS S.files nm with
  |none=>rw[Xb c a];exact zkl B p S fs nm w N d b c a h
  |some i=>
   obtain⟨f,g,_,_⟩:=kF a;rw[qX c a g];exact zkm B p S fs nm w N d b c i f a g h
 ·rw[jD c];exact zcp B p S fs nm w N d b c h
theorem QH{base':Nat}{e:TypeId}(h:w.ownsRow base e size v n xs)(f:base'<=base):w.ownsRow base' e size v n xs:=by
 refine⟨h.1,?_⟩;rcases h.2 with c|⟨g,cap,a,b,d,r⟩
 ·exact .inl c
 ·exact .inr ⟨g,cap,a,b,by omega,r⟩
theorem zgs{e:TypeId}(h:w.ownsRow base e size v n xs):∃a cap,v=.slice a n cap:=by
 rcases h.2 with⟨b,c⟩|⟨g,cap,_,b,_⟩
 ·exact⟨Y,0,by rw[b,c]⟩
 ·exact⟨_,cap,b⟩
theorem zao(w:E)(base:Nat)(e:TypeId)(size:Nat):w.ownsRow base e size (.slice Y 0 0) 0 []:=World.ownsRow_nil w base e size
theorem Yu(h:l[k]?=J f):l.take (k+1)=l.take k++[f]:=by
 rw[List.take_add_one,h];rfl
def kw(p:FS->Bool)(l:List FS)(k:Nat):List FS:=(l.take k).filter p
theorem KE(p:FS->Bool)(l:List FS):kw p l 0=[]:=by simp[kw]
variable {p:FS->Bool}
theorem J3(h:l[k]?=J f)(a:p f=true):kw p l (k+1)=kw p l k++[f]:=by
 simp[kw,Yu h,List.filter_append,a]
theorem KD(h:l[k]?=J f)(a:p f=false):kw p l (k+1)=kw p l k:=by
 simp[kw,Yu h,List.filter_append,a]
theorem Qf(p:FS->Bool)(l:List FS)(k:Nat):(kw p l k).length<=k:=by
 have:=List.length_filter_le p (l.take k);have:=List.length_take_le k l;unfold kw;omega
theorem J2(p:FS->Bool)(l:List FS):kw p l l.length=l.filter p:=by simp[kw]
theorem KW{ops:Array Oper}{rest:List Oper}{o:Oper}{a:Act}{Q:Exit->Act->E->Prop}(i:o.guard=Y)(s x:Operand)(r:o.op=.call {callee:=.builtin .append,args:=#[s,x],argTypes:=#[109,109]})(base:Nat)(v:K)(l:List FS)(f:FS)(t:a.eval s=v)(c:w.ownsRow base 113 3 v l.length (zZ l))(d:Nat)(y:a.eval x=.slice (J (U d 0)) 1 1)(e:w.1[d]?=J (.cells #[.string f.name,.string f.data,I f.safe] 113 (0,0)))(z:l.length<=1099511627776)(b:base<=w.1.size)(h:∀g cap w',w'.ownsRow base 113 3 (.slice (J (U g 0)) (l.length+1) cap) (l++[f]).length (zZ (l++[f]))->w'.ownsRow base 113 3 v l.length (zZ l)->w.grownBy w' v.ownBlock->(v.ownBlock=J g\/g=w.1.size)->g<w'.1.size->wpList prog ops Q rest (a.put o.dst (.slice (J (U g 0)) (l.length+1) cap)) w'):wpList prog ops Q (o::rest) a w:=
 zO i s x 109 r base 113 _ 3 40 underlying109 Tryz.infoFile rfl (by decide) v l.length (zZ l) t c (U d 0) 1 1 [.string f.name,.string f.data,I f.safe] y rfl
  (World.news_of_block (cs:=#[.string f.name,.string f.data,I f.safe]) e) (by intro u j;simp at j;rcases j with rfl|rfl|rfl<;>rfl) (by decide) (by simp only[maxLen];omega) (by omega) b
  fun g cap w' k m n p q=>h g cap w' (Jn rfl k) m n p q
theorem heap_second(w:E)(o a:Obj):((w.alloc o).alloc a).1[w.1.size+1]?=J a:=by
 have h:=heap_alloc_last (w.alloc o) a;rwa[show(w.alloc o).1.size=w.1.size+1 by simp]at h
theorem jL(w:E)(o:Obj):(w.alloc o).1.size=w.1.size+1:=by simp
theorem XJ(w:E)(o a:Obj):((w.alloc o).alloc a).1.size=w.1.size+2:=by simp
def qO(S:DS)(name:ByteArray):DS:=if zt S then zr S else zdG (zr S) name
theorem zjz(B:Nat)(p:Nat)(S:DS)(fs:K)(nm:ByteArray)(w:E)(N:Nat)(hN:N<=1099511627776)(M:DOk S N)(hB:B<=w.1.size)(hs:zt S=false)(h:zM 111 113 B w p S fs):
  Calls prog 206 #[(O p),.string nm] w fun e w'=>e=.returned (.bool true)/\∃o,zM 111 113 B w' p (zdG (zr S) nm) o/\zj (foot p fs) w w'/\∀k,o.ownBlock=J k->fs.ownBlock=J k\/w.1.size<=k:=by
 obtain⟨G,H,hn,q⟩:=M;have m:=ze (yD B p S fs w ⟨G,H⟩ h);rw[hs]at m;have a1:(zr S).files.length<=N:=by rw[zy];exact hn
 have z:Hid ((zr S).files.length=S.files.length):=by show _=_;rw[zy]
 obtain⟨a,n,rfl⟩:=zaJ h.row;clear hs q h;go_in;go_wp2_with(go_at_call 197;refine m.mono ?_;rintro e w1 ⟨rfl,s,i⟩;have c0:=s.c0);go_loopw [5,7,16] (fun v _ y wr=>∃(k:Nat),k<=S.files.length/\y=I k/\wr.ownsRow w1.1.size 113 3 v (kw (fun f=>!eqS f.name nm) (zr S).files k).length (zZ (kw (fun f=>!eqS f.name nm) (zr S).files k))/\B_ w1 wr) (fun _ _ y _=>S.files.length-(intOf y).toNat);case atStart=>exact⟨0,Nat.zero_le _,rfl,by rw[KE];exact zao _ _ _ _,Z _ _⟩
 case round=>
  obtain⟨k,u,rfl,hv,b⟩:=hrel;have a6:=Qf (fun f=>!eqS f.name nm) (zr S).files k;have t:=s.later b;by_cases L:k<S.files.length
  ·obtain⟨f,D⟩:=Ko (l:=(zr S).files) (k:=k) (by rw[ud z];exact L);obtain⟨g,W,P,-⟩:=t.files (by rw[ud z];omega);injection P with Q R T;subst Q;obtain⟨x0,x1,x2,xf⟩:=t.at D;have V:=ze D;have a7:(k:Int)<S.files.length:=(by omega);clear D R T;cases j:eqS f.name nm
   ·have C:(f.name.toList==nm.toList)=false:=j;have x:=ze (J3 (p:=fun f=>!eqS f.name nm) (ud V) (by simp[j]));clear j;have hbs:=b.size;go_wp2_with(first
     |(at_builtin;refine KW rfl _ _ rfl w1.1.size _ (kw (fun f=>!eqS f.name nm) (zr S).files k) f rfl ((hv.alloc _).alloc _) (wr.1.size+1) rfl (heap_second _ _ _) ?hll ?hbb ?_;(case hll=>omega);(case hbb=>(rw[XJ];omega));intro g2 X w3 r a3 d a4 a2)
     |fail)
    have A:B_ w1 w3:=((b.alloc hbs _).alloc (by simp;omega) _).grown d (by simp;omega) (fun k u=>(hv.lt k u).1);exact⟨⟨k+1,by omega,by go_num,by rw[ud x];exact r,A⟩,by simp[intOf];omega⟩
   ·have C:(f.name.toList==nm.toList)=true:=j;have x:=ze (KD (p:=fun f=>!eqS f.name nm) (ud V) (by simp[j]));have hbs:=b.size;clear j;go_wp2;go_roundw;case rel=>exact⟨k+1,by omega,by go_num,by rw[ud x];exact hv.alloc _,b.alloc hbs _⟩
    case measure=>simp[intOf];omega
  ·have e:k=(zr S).files.length:=(by rw[ud z];omega);have hbs:=b.size;have F:zj (foot p (.slice a S.files.length n)) w1 wr:=zj.of_below b;have c:=QH hv (show B<=w1.1.size by have:=i.size;omega);rw[e,J2]at c;obtain⟨a5,a0,rfl⟩:=zgs hv;obtain⟨hD,hK⟩:=s.setFiles (by decide) F (b.block p s.lt) c;have U:=hv.lt;have d0:=t.c0;have d1:=t.free 0;clear e;go_wp2;go_ret;exact⟨rfl,_,hD,i.trans hK (fun _ _ hh=>hh),fun k u=> .inr (by have:=(U k u).1;have:=i.size;omega)⟩
theorem VC(B:Nat)(p:Nat)(S:DS)(fs:K)(nm:ByteArray)(w:E)(N:Nat)(g:DOk S N)(i:zt S=true)(h:zM 111 113 B w p S fs):
  Calls prog 206 #[(O p),.string nm] w fun e w'=>e=.returned (.bool false)/\zM 111 113 B w' p (zr S) fs/\zj (foot p fs) w w':=by
 obtain⟨d,f,hn,b⟩:=g;have a:=ze (yD B p S fs w ⟨d,f⟩ h);rw[i]at a;clear i b;go_in;go_wp2_with(go_at_call 197;refine a.mono ?_;rintro e w1 ⟨rfl,j,c⟩);go_ret;exact⟨rfl,j,c⟩
theorem zgK(B:Nat)(p:Nat)(S:DS)(fs:K)(nm:ByteArray)(w:E)(N:Nat)(j:N<=1099511627776)(b:DOk S N)(i:B<=w.1.size)(h:zM 111 113 B w p S fs):
  Calls prog 206 #[(O p),.string nm] w fun e w'=>e=.returned (.bool (!zt S))/\∃a,zM 111 113 B w' p (qO S nm) a/\zj (foot p fs) w w'/\∀k,a.ownBlock=J k->fs.ownBlock=J k\/w.1.size<=k:=by
 cases c:zt S
 ·have e:qO S nm=zdG (zr S) nm:=by simp[qO,c]
  rw[e];exact zjz B p S fs nm w N j b i c h
 ·have e:qO S nm=zr S:=by simp[qO,c]
  rw[e];exact(VC B p S fs nm w N b c h).mono fun e w' ⟨d,f,g⟩=>⟨d,fs,f,g,fun k l=> .inl l⟩
def kt(old new:ByteArray)(f:FS):Bool:=!eqS f.name new&&!eqS f.name old
theorem zdY(l:List FS)(old new:ByteArray):XN (XN l old) new=l.filter (kt old new):=by
 unfold XN;rw[List.filter_filter];rfl
def qo(S:DS)(old new:ByteArray):DS:=if zt S then zr S else zay (zr S) old new
theorem Xs(a:zt S=true):qo S old new=zr S:=by simp[qo,a]
theorem YA(b:zt S=false)(a:xS S.files old=Y):qo S old new=zr S:=by simp[qo,b,zay,zy,a]
theorem YB(c:zt S=false)(a:xS S.files old=J i)(b:eqS old new=true):qo S old new=zr S:=by simp[qo,c,zay,zy,a,b]
theorem jv(d:zt S=false)(a:xS S.files old=J i)(c:S.files[i]?=J f)(b:eqS old new=false):qo S old new={zr S with files:=(zr S).files.filter (kt old new)++[{f with name:=new}]}:=by
 simp[qo,d,zay,zy,a,c,b,zdY]
theorem VD(B:Nat)(p:Nat)(S:DS)(fs:K)(old new:ByteArray)(w:E)(N:Nat)(l:N<=1099511627776)(i:DOk S N)(k:zt S=true)(h:zM 111 113 B w p S fs):
  Calls prog 207 #[(O p),.string old,.string new] w fun e w'=>e=.returned (.bool false)/\zM 111 113 B w' p (zr S) fs/\zj (foot p fs) w w':=by
 obtain⟨f,g,hn,b⟩:=i;have a:=ze (yD B p S fs w ⟨f,g⟩ h);rw[k]at a;have c:(zr S).files.length<=N:=by rw[zy];exact hn
 clear k b;go_in;go_wp2_with(first
  |(go_at_call 197;refine a.mono ?_;rintro e w1 ⟨rfl,j,d⟩)
  |(go_at_call 198;refine(yS B p (zr S) _ old _ N l c j).mono ?_;rintro e w2 ⟨rfl,rfl⟩))
 go_ret;exact⟨rfl,j,d⟩
theorem zdH(B:Nat)(p:Nat)(S:DS)(fs:K)(old new:ByteArray)(w:E)(N:Nat)(n:N<=1099511627776)(k:DOk S N)(m:zt S=false)(d:xS S.files old=Y)(h:zM 111 113 B w p S fs):
  Calls prog 207 #[(O p),.string old,.string new] w fun e w'=>e=.returned (.bool true)/\zM 111 113 B w' p (zr S) fs/\zj (foot p fs) w w':=by
 obtain⟨i,j,hn,b⟩:=k;have a:=ze (yD B p S fs w ⟨i,j⟩ h);rw[m]at a;have c:(zr S).files.length<=N:=by rw[zy];exact hn
 have f:Hid (qJ (zr S).files old= -1):=by show _=_;simp[qJ,zy,d]
 clear d;clear m b;go_in;go_wp2_with(first
  |(go_at_call 197;refine a.mono ?_;rintro e w1 ⟨rfl,l,g⟩)
  |(go_at_call 198;refine(yS B p (zr S) _ old _ N n c l).mono ?_;rintro e w2 ⟨rfl,rfl⟩;rw[ud f]))
 go_ret;exact⟨rfl,l,g⟩
theorem zdI(B:Nat)(p:Nat)(S:DS)(fs:K)(old new:ByteArray)(w:E)(N:Nat)(q:N<=1099511627776)(l:DOk S N)(o:zt S=false)(i:Nat)(d:xS S.files old=J i)(n:eqS old new=true)(h:zM 111 113 B w p S fs):
  Calls prog 207 #[(O p),.string old,.string new] w fun e w'=>e=.returned (.bool true)/\zM 111 113 B w' p (zr S) fs/\zj (foot p fs) w w':=by
 obtain⟨j,k,hn,b⟩:=l;have a:=ze (yD B p S fs w ⟨j,k⟩ h);rw[o]at a;have c:(zr S).files.length<=N:=by rw[zy];exact hn
 have f:Hid (qJ (zr S).files old=i):=by show _=_;simp[qJ,zy,d]
 have r:(old.toList==new.toList)=true:=n;have s:¬(i:Int)<0:=by omega
 clear d n;clear o b;go_in;go_wp2_with(first
  |(go_at_call 197;refine a.mono ?_;rintro e w1 ⟨rfl,m,g⟩)
  |(go_at_call 198;refine(yS B p (zr S) _ old _ N q c m).mono ?_;rintro e w2 ⟨rfl,rfl⟩;rw[ud f]))
 go_ret;exact⟨rfl,m,g⟩
theorem zjA(B:Nat)(p:Nat)(S:DS)(fs:K)(old new:ByteArray)(w:E)(N:Nat)(hN:N<=1099511627776)(a6:DOk S N)(hB:B<=w.1.size)(hs:zt S=false)(i:Nat)(f:FS)(Q:xS S.files old=J i)(hf:S.files[i]?=J f)(he:eqS old new=false)(h:zM 111 113 B w p S fs):
  Calls prog 207 #[(O p),.string old,.string new] w fun e w'=>e=.returned (.bool true)/\∃C,zM 111 113 B w' p {zr S with files:=(zr S).files.filter (kt old new)++[{f with name:=new}]} C/\zj (foot p fs) w w'/\∀k,C.ownBlock=J k->fs.ownBlock=J k\/w.1.size<=k:=by
 obtain⟨a3,a4,hn,D⟩:=a6;have A:=ze (yD B p S fs w ⟨a3,a4⟩ h);rw[hs]at A;have ac:i<S.files.length:=(List.getElem?_eq_some_iff.1 hf).1;have ad:(i:Int)<S.files.length:=by omega
 have aa:¬(i:Int)<0:=by omega
 have ab:decide ((i:Int)<0)=false:=by simp
 have a9:(old.toList==new.toList)=false:=he;have V:Hid (qJ (zr S).files old=i):=by show _=_;simp[qJ,zy,Q]
 have H:(zr S).files[i]?=J f:=by rw[zy];exact hf
 have HF:=ze H;have L:(zr S).files.length<=N:=by rw[zy];exact hn
 have HL:Hid ((zr S).files.length=S.files.length):=by show _=_;rw[zy]
 obtain⟨g,cap,rfl,-⟩:=h.files (by omega);clear hs Q H D he h hf;go_in;go_wp2_with(first
  |(go_at_call 197;refine A.mono ?_;rintro e w0 ⟨rfl,s,j⟩)
  |(go_at_call 198;refine(yS B p (zr S) _ old _ N hN L s).mono ?_;rintro e w1 ⟨rfl,rfl⟩;rw[ud V];have W:=s.c0;obtain⟨x0,x1,x2,xf⟩:=s.at HF;clear xf;have ag:=s.lt))
 have X:B_ w1 (w1.alloc (.cells #[.string new,.string f.data,I f.safe] 113)):=(Z _ _).alloc (Nat.le_refl _) _;go_loopw [9,11,39] (fun v _ y wr=>∃(k:Nat),k<=S.files.length/\y=I k/\wr.ownsRow (w1.1.size+1) 113 3 v (kw (kt old new) (zr S).files k).length (zZ (kw (kt old new) (zr S).files k))/\Below (w1.1.size+1) (w1.alloc (.cells #[.string new,.string f.data,I f.safe] 113)) wr) (fun _ _ y _=>S.files.length-(intOf y).toNat);case atStart=>exact⟨0,Nat.zero_le _,rfl,by rw[KE];exact zao _ _ _ _,Z _ _⟩
 case round=>
  clear W x0 x1 x2;obtain⟨k,x,rfl,hv,n⟩:=hrel;have ae:=Qf (kt old new) (zr S).files k;have F:B_ w1 wr:=X.trans (n.mono (by omega));have T:=s.later F;have hbs:w1.1.size+1<=wr.1.size:=by have:=n.size;rw[jL]at this;exact this
  by_cases a5:k<S.files.length
  ·obtain⟨m,u⟩:=Ko (l:=(zr S).files) (k:=k) (by rw[ud HL];exact a5);obtain⟨x0,x1,x2,xf⟩:=T.at u;have r:=ze u;have af:(k:Int)<S.files.length:=(by omega);clear u xf;cases a:eqS m.name old
   ·cases d:eqS m.name new
    ·have q:(m.name.toList==old.toList)=false:=a;have G:(m.name.toList==new.toList)=false:=d;have z:=ze (J3 (p:=kt old new) (ud r) (by simp[kt,a,d]));clear a d;go_wp2_with(first
      |(at_builtin;refine KW rfl _ _ rfl (w1.1.size+1) _ (kw (kt old new) (zr S).files k) m rfl ((hv.alloc _).alloc _) (wr.1.size+1) rfl (heap_second _ _ _) ?hll ?hbb ?_;(case hll=>omega);(case hbb=>(rw[XJ];omega));intro g2 a7 w3 c P b a0 M)
      |fail)
     have a1:Below (w1.1.size+1) (w1.alloc (.cells #[.string new,.string f.data,I f.safe] 113)) w3:=((n.alloc (by omega) _).alloc (by rw[jL];omega) _).grown b (by rw[XJ];omega) (fun k x=>(hv.lt k x).1);exact⟨⟨k+1,by omega,by go_num,by rw[ud z];exact c,a1⟩,by simp[intOf];omega⟩
    ·have q:(m.name.toList==old.toList)=false:=a;have G:(m.name.toList==new.toList)=true:=d;have z:=ze (KD (p:=kt old new) (ud r) (by simp[kt,a,d]));clear a d;go_wp2;go_roundw;case rel=>exact⟨k+1,by omega,by go_num,by rw[ud z];exact hv.alloc _,n.alloc (by omega) _⟩
     case measure=>simp[intOf];omega
   ·have q:(m.name.toList==old.toList)=true:=a;have z:=ze (KD (p:=kt old new) (ud r) (by simp[kt,a]));clear a;go_wp2;go_roundw;case rel=>exact⟨k+1,by omega,by go_num,by rw[ud z];exact hv.alloc _,n.alloc (by omega) _⟩
    case measure=>simp[intOf];omega
  ·have e:k=(zr S).files.length:=(by rw[ud HL];omega);have R:=QH hv (show B<=w1.1.size+1 by have:=j.size;omega);have ai:=hv.lt;have hll:((zr S).files.filter (kt old new)).length<=N:=(by have:=List.length_filter_le (kt old new) (zr S).files;omega);rw[e,J2]at hv;have W:=T.c0;have ah:=T.lt;have a2:=T.free 0;have y0:Cz wr w1.1.size 0 (.string new):=(n.cell (p:=(U w1.1.size 0)) (show w1.1.size<_ by omega)).trans (by rw[World.cell?_alloc_mark];rfl);have y1:Cz wr w1.1.size 1 (.string f.data):=(n.cell (p:=(U w1.1.size 1)) (show w1.1.size<_ by omega)).trans (by rw[World.cell?_alloc_mark];rfl);have y2:Cz wr w1.1.size 2 (I f.safe):=(n.cell (p:=(U w1.1.size 2)) (show w1.1.size<_ by omega)).trans (by rw[World.cell?_alloc_mark];rfl);clear e R;go_wp2_with(first
    |(at_builtin;refine KW rfl _ _ rfl (w1.1.size+1) _ ((zr S).files.filter (kt old new)) {f with name:=new} rfl (hv.alloc _) wr.1.size rfl (heap_alloc_last _ _) ?hll ?hbb ?_;(case hll=>omega);(case hbb=>(rw[jL];omega));intro g3 a8 w4 c P b a0 M;have t:Below (w1.1.size+1) wr w4:=((Z _ _).alloc (by omega) _).grown b (by rw[jL];omega) (fun k x=>(hv.lt k x).1);have d0:=(t.cell (p:=(U p 0)) (show p<_ by omega)).trans W;have d1:=(t.frozen (p:=(U p 0)) (show p<_ by omega)).trans a2)
    |fail)
   go_ret;have o:B_ w1 w4:=F.trans (t.mono (by omega));obtain⟨hD,hK⟩:=s.setFiles (by decide) (zj.of_below o) (o.block p s.lt) (QH c (show B<=w1.1.size+1 by have:=j.size;omega));exact⟨rfl,_,hD,j.trans hK (fun _ _ hh=>hh),fun k x=> .inr (by have:=(c.lt k x).1;have:=j.size;omega)⟩
theorem zgL(B:Nat)(p:Nat)(S:DS)(fs:K)(old new:ByteArray)(w:E)(N:Nat)(n:N<=1099511627776)(b:DOk S N)(r:B<=w.1.size)(h:zM 111 113 B w p S fs):
  Calls prog 207 #[(O p),.string old,.string new] w fun e w'=>e=.returned (.bool (!zt S))/\∃d,zM 111 113 B w' p (qo S old new) d/\zj (foot p fs) w w'/\∀k,d.ownBlock=J k->fs.ownBlock=J k\/w.1.size<=k:=by
 cases c:zt S
 ·cases a:xS S.files old with
  |none=>
   rw[YA c a];exact(zdH B p S fs old new w N n b c a h).mono fun e w' ⟨g,j,l⟩=>⟨g,fs,j,l,fun k m=> .inl m⟩
  |some i=>
   obtain⟨f,q,_,_⟩:=kF a;cases o:eqS old new
   ·rw[jv c a q o];exact zjA B p S fs old new w N n b r c i f a q o h
   ·rw[YB c a o];exact(zdI B p S fs old new w N n b c i a o h).mono fun e w' ⟨g,j,l⟩=>⟨g,fs,j,l,fun k m=> .inl m⟩
 ·rw[Xs c];exact(VD B p S fs old new w N n b c h).mono fun e w' ⟨g,j,l⟩=>⟨g,fs,j,l,fun k m=> .inl m⟩
def Qj:DS:=⟨[],-1,false⟩
theorem ziM(B:Nat)(w:E)(a:B<=w.1.size):
  Calls prog 38 #[] w fun e w'=>e=.returned (O w.1.size)/\zM 111 113 B w' w.1.size Qj (.slice Y 0 0)/\B_ w w'/\w'.1.size=w.1.size+1:=by
 go_in;go_wp2;go_ret;exact⟨rfl,⟨heap_alloc_last _ _,a,zao _ _ _ _⟩,(Z _ _).alloc (Nat.le_refl _) _,jL _ _⟩
theorem VG{n:Int}(h:zt S=true):Ys S n=S:=by simp[Ys,h]
theorem zha{n:Int}(h:zt S=false)(hn:n<0):Ys S n={S with left:= -1}:=by simp[Ys,h,hn]
theorem zhb{n:Int}(h:zt S=false)(hn:¬n<0):Ys S n={S with left:=n}:=by simp[Ys,h,hn]
theorem zfd(B:Nat)(p:Nat)(S:DS)(fs:K)(n:Int)(w:E)(b:zM 111 113 B w p S fs):
  Calls prog 28 #[(O p),I n] w fun e w'=>e=.returned (.tuple #[])/\zM 111 113 B w' p (Ys S n) fs/\zj (foot p fs) w w':=by
 cases c:zt S
 ·by_cases hn:n<0
  ·rw[zha c hn];by_cases h:n= -1
   ·subst h;have a:=ze (yH B p S fs w b);rw[c]at a;clear c;go_in;go_wp2_with(go_at_call 32;refine a.mono ?_;rintro e w1 ⟨rfl,rfl⟩;have d:=b.c1;have f:=b.free 1);go_end0;exact⟨rfl,b.setLeft (by decide) (-1)⟩
   ·have g:¬ -1<=n:=(by omega);have a:=ze (yH B p S fs w b);rw[c]at a;clear c;go_in;go_wp2_with(go_at_call 32;refine a.mono ?_;rintro e w1 ⟨rfl,rfl⟩;have d:=b.c1;have f:=b.free 1);go_end0;try rw[show(max n (-1):Int)= -1 from by omega]
    exact⟨rfl,b.setLeft (by decide) (-1)⟩
  ·rw[zhb c hn];have g: -1<=n:=(by omega);have a:=ze (yH B p S fs w b);rw[c]at a;clear c;go_in;go_wp2_with(go_at_call 32;refine a.mono ?_;rintro e w1 ⟨rfl,rfl⟩;have d:=b.c1;have f:=b.free 1);go_end0;try rw[show(max n (-1):Int)=n from by omega]
   exact⟨rfl,b.setLeft (by decide) n⟩
 ·rw[VG c];have a:=ze (yH B p S fs w b);rw[c]at a;clear c;go_in;go_wp2_with(go_at_call 32;refine a.mono ?_;rintro e w1 ⟨rfl,rfl⟩;have d:=b.c1;have f:=b.free 1);go_end0;exact⟨rfl,b,zj.refl _ _⟩
theorem zep{a b:ByteArray}(h:a=b):Ending.returned (.string a)=.returned (.string b):=by rw[h]
def vk(S:DS)(nm:ByteArray):ByteArray:=match xS S.files nm with|some i=>(match S.files[i]? with|some f=>f.data|none=>⟨#[]⟩)|none=>⟨#[]⟩
theorem zau(B:Nat)(p:Nat)(S:DS)(fs:K)(nm:ByteArray)(w:E)(N:Nat)(j:N<=1099511627776)(hn:S.files.length<=N)(h:zM 111 113 B w p S fs):
  Calls prog 128 #[(O p),.string nm] w fun e w'=>e=.returned (.string (vk S nm))/\w'=w:=by
 have b:=ze (yS B p S fs nm w N j hn h);cases a:xS S.files nm with
 |none=>
  have c:qJ S.files nm= -1:=by simp[qJ,a]
  have HR:Hid (vk S nm=⟨#[]⟩):=by show _=_;simp[vk,a]
  rw[c]at b;clear a c;go_in;go_wp2_with(go_at_call 198;refine b.mono ?_;rintro e w1 ⟨rfl,rfl⟩);go_ret;exact⟨zep HR.symm,rfl⟩
 |some i=>
  obtain⟨f,d,l,_⟩:=kF a;have c:qJ S.files nm=i:=by simp[qJ,a]
  have HR:Hid (vk S nm=f.data):=by show _=_;simp[vk,a,d]
  rw[c]at b;have m:(i:Int)<S.files.length:=by omega
  have k:¬(i:Int)<0:=by omega
  obtain⟨g,cap,rfl,-⟩:=h.files (by omega);have o:=h.c0;obtain⟨q,r,s,n⟩:=h.at d;clear a c d n;go_in;go_wp2_with(go_at_call 198;refine b.mono ?_;rintro e w1 ⟨rfl,rfl⟩);go_ret;exact⟨zep HR.symm,rfl⟩
theorem znF(B:Nat)(p:Nat)(S:DS)(fs:K)(nm:ByteArray)(w:E)(N:Nat)(d:N<=1099511627776)(hn:S.files.length<=N)(h:zM 111 113 B w p S fs):
  Calls prog 205 #[(O p),.string nm] w fun e w'=>e=.returned (.bool (xS S.files nm).isSome)/\w'=w:=by
 have a:=ze (yS B p S fs nm w N d hn h);cases b:xS S.files nm with
 |none=>
  have c:qJ S.files nm= -1:=by simp[qJ,b]
  rw[c]at a;clear b c;go_in;go_wp2_with(go_at_call 198;refine a.mono ?_;rintro e w1 ⟨rfl,rfl⟩);go_ret;exact⟨rfl,rfl⟩
 |some i=>
  have c:qJ S.files nm=i:=by simp[qJ,b]
  have f:(0:Int)<=(i:Int):=by omega
  rw[c]at a;clear b c;go_in;go_wp2_with(go_at_call 198;refine a.mono ?_;rintro e w1 ⟨rfl,rfl⟩);go_ret;exact⟨vM (by simp),rfl⟩
