import Derived.Test.YtndhpgciopcncaaGreatDoorHAbb
import Derived.WalkKit
open Option renaming some → J
namespace Go.Proofs.YtndhpgciopcncaaGreatDoor
variable {name:ByteArray} {i:Nat}
structure FS where
 name:ByteArray
 data:ByteArray
 safe:Nat
structure DS where
 files:List FS
 left:Int
 down:Bool
def zK:List FS->List Value
 |[]=>[]
 |f::r=> .string f.name:: .string f.data::I f.safe::zK r
theorem Z7:∀(l r:List FS),zK (l++r)=zK l++zK r
 |[],_=>rfl
 |f::l,r=>by simp[zK,Z7 l r]
theorem Ka:∀(l:List FS) (i:Nat) (f:FS),l[i]?=J f->(zK l)[i*3]?=J (.string f.name)
 |[],i,f,h=>by simp at h
 |g::r,0,f,h=>by simp at h;subst h;rfl
 |g::r,i+1,f,h=>by
  have:=Ka r i f (by simpa using h);rw[show(i+1)*3=i*3+1+1+1 by omega];simpa[zK]using this
theorem Kc:∀(l:List FS) (i:Nat) (f:FS),l[i]?=J f->(zK l)[i*3+1]?=J (.string f.data)
 |[],i,f,h=>by simp at h
 |g::r,0,f,h=>by simp at h;subst h;rfl
 |g::r,i+1,f,h=>by
  have:=Kc r i f (by simpa using h);rw[show(i+1)*3+1=i*3+1+1+1+1 by omega];simpa[zK]using this
theorem Kd:∀(l:List FS) (i:Nat) (f:FS),l[i]?=J f->(zK l)[i*3+2]?=J (I f.safe)
 |[],i,f,h=>by simp at h
 |g::r,0,f,h=>by simp at h;subst h;rfl
 |g::r,i+1,f,h=>by
  have:=Kd r i f (by simpa using h);rw[show(i+1)*3+2=i*3+2+1+1+1 by omega];simpa[zK]using this
theorem Xb:∀(l:List FS) (i:Nat) (f:FS) (d:ByteArray),l[i]?=J f->zK (l.set i {f with data:=d})=(zK l).set (i*3+1) (.string d)
 |[],i,f,d,h=>by simp at h
 |g::r,0,f,d,h=>by simp at h;subst h;simp[zK]
 |g::r,i+1,f,d,h=>by
  have:=Xb r i f d (by simpa using h);rw[show(i+1)*3+1=i*3+1+1+1+1 by omega];simp[zK,this]
theorem Xc:∀(l:List FS) (i:Nat) (f:FS) (d:Nat),l[i]?=J f->zK (l.set i {f with safe:=d})=(zK l).set (i*3+2) (I d)
 |[],i,f,d,h=>by simp at h
 |g::r,0,f,d,h=>by simp at h;subst h;simp[zK]
 |g::r,i+1,f,d,h=>by
  have:=Xc r i f d (by simpa using h);rw[show(i+1)*3+2=i*3+2+1+1+1 by omega];simp[zK,this]
def eqS(a b:ByteArray):Bool:=a.toList==b.toList
def xo(name:ByteArray):Nat->List FS->Option Nat
 |_,[]=>none
 |k,f::r=>if eqS f.name name then J k else xo name (k+1) r
def xL(l:List FS)(name:ByteArray):Option Nat:=xo name 0 l
def qN(l:List FS)(name:ByteArray):Int:=match xL l name with|some i=>i|none=> -1
theorem Xg(name:ByteArray):∀(k:Nat) (l:List FS),(∀f∈l,(eqS f.name name)=false)->xo name k l=none
 |_,[],_=>rfl
 |k,f::r,h=>by
  rw[xo,h f (by simp)];simpa using Xg name (k+1) r (fun g a=>h g (by simp[a]))
theorem Xh(name:ByteArray):∀(k:Nat) (l:List FS) (i:Nat) (f:FS),l[i]?=J f->(eqS f.name name)=true->(∀j g,j<i->l[j]?=J g->(eqS g.name name)=false)->xo name k l=J (k+i)
 |_,[],i,f,h,_,_=>by simp at h
 |k,g::r,0,f,h,a,_=>by simp at h;subst h;rw[xo,a];rfl
 |k,g::r,i+1,f,h,a,hn=>by
  rw[xo,hn 0 g (by omega) rfl];have:=Xh name (k+1) r i f (by simpa using h) a (fun j b d c=>hn (j+1) b (by omega) (by simpa using c));simp only[Bool.false_eq_true,if_false];rw[this];congr 1;omega
variable {l:List FS}
theorem zdu(h:∀j f,j<l.length->l[j]?=J f->(eqS f.name name)=false):xL l name=none/\qN l name= -1:=by
 have:xL l name=none:=Xg name 0 l (fun f b=>by
  obtain⟨j,a⟩:=List.getElem?_of_mem b;exact h j f (List.getElem?_eq_some_iff.1 a).1 a)
 exact⟨this,by simp[qN,this]⟩
theorem zdv{f:FS}(h:l[i]?=J f)(a:(eqS f.name name)=true)(hn:∀j g,j<i->l[j]?=J g->(eqS g.name name)=false):xL l name=J i/\qN l name=i:=by
 have:xL l name=J i:=by have:=Xh name 0 l i f h a hn;simpa[xL]using this
 exact⟨this,by simp[qN,this]⟩
theorem Y3(name:ByteArray):∀(k:Nat) (l:List FS) (i:Nat),xo name k l=J i->k<=i/\∃f,l[i-k]?=J f/\(eqS f.name name)=true
 |_,[],i,h=>by cases h
 |k,f::r,i,h=>by
  rw[xo]at h;by_cases e:(eqS f.name name)=true
  ·rw[if_pos e]at h;cases h;exact⟨Nat.le_refl _,f,by simp,e⟩
  ·rw[if_neg e]at h;obtain⟨c,g,a,b⟩:=Y3 name (k+1) r i h;refine⟨by omega,g,?_,b⟩;rw[show i-k=(i-(k+1))+1 by omega];simpa using a
theorem ku(h:xL l name=J i):∃f,l[i]?=J f/\i<l.length/\(eqS f.name name)=true:=by
 obtain⟨_,f,a,b⟩:=Y3 name 0 l i h;exact⟨f,a,(List.getElem?_eq_some_iff.1 a).1,b⟩
theorem XY{k:Nat}(h:k<l.length):∃f,l[k]?=J f:=⟨_,List.getElem?_eq_getElem h⟩
def zj(S:DS):Bool:=S.down||S.left==0
def zm(S:DS):DS:=if zj S then{S with down:=true}else{S with left:=if 0<S.left then S.left-1 else S.left}
def Ju(S:DS)(name data:ByteArray):DS:=
 match xL S.files name with
 |some i=>{S with files:=match S.files[i]? with|some f=>S.files.set i {f with data:=f.data++data}|none=>S.files}
 |none=>{S with files:=S.files++[⟨name,data,0⟩]}
def zjO(S:DS)(name:ByteArray):DS:=
 match xL S.files name with
 |some i=>{S with files:=match S.files[i]? with|some f=>S.files.set i {f with safe:=f.data.size}|none=>S.files}
 |none=>S
def ZL(l:List FS)(name:ByteArray):List FS:=l.filter fun f=>!eqS f.name name
def zam(S:DS)(old new:ByteArray):DS:=
 match xL S.files old with
 |some i=>if eqS old new then S else{S with files:=match S.files[i]? with|some f=>ZL (ZL S.files old) new++[{f with name:=new}]|none=>S.files}
 |none=>S
def zal(S:DS)(name:ByteArray):DS:={S with files:=ZL S.files name}
def ZF(S:DS)(n:Int):DS:=if zj S then S else{S with left:=if n<0 then-1 else n}
def leftOf(keep:Int)(f:FS):FS:=
 let n:=if keep<(f.data.size:Int)-f.safe then(if keep<0 then 0 else keep.toNat)else f.data.size-f.safe
 ⟨f.name,f.data.extract 0 (f.safe+n),(f.data.extract 0 (f.safe+n)).size⟩
def Xp(S:DS)(keep:Int):DS:=⟨S.files.map (leftOf keep),-1,false⟩
def DOk(S:DS)(N:Nat):Prop:= -1<=S.left/\S.left<=9223372036854775807/\S.files.length<=N/\∀f∈S.files,f.safe<=f.data.size/\f.data.size<=N
end Go.Proofs.YtndhpgciopcncaaGreatDoor
