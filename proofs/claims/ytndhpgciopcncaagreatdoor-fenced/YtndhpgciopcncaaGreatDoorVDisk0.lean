import Derived.WalkKit
open Option renaming some → I
open Go.Value (int)
open Go.IntKind (i64)
namespace Go.Proofs.YtndhpgciopcncaaGreatDoor
structure FS where
 name:ByteArray
 data:ByteArray
 safe:Nat
structure DS where
 files:List FS
 left:Int
 down:Bool
def zJ:List FS->List Value
 |[]=>[]
 |f::r=> .string f.name:: .string f.data::int i64 f.safe::zJ r
theorem vv:∀(l r:List FS),zJ (l++r)=zJ l++zJ r
 |[],_=>rfl
 |f::l,r=>by simp[zJ,vv l r]
theorem XE:∀(l:List FS) (i:Nat) (f:FS),l[i]?=I f->(zJ l)[i*3]?=I (.string f.name)
 |[],i,f,h=>by simp at h
 |g::r,0,f,h=>by simp at h;subst h;rfl
 |g::r,i+1,f,h=>by
  have:=XE r i f (by simpa using h)
  rw[show(i+1)*3=i*3+1+1+1 by omega];simpa[zJ]using this
theorem XG:∀(l:List FS) (i:Nat) (f:FS),l[i]?=I f->(zJ l)[i*3+1]?=I (.string f.data)
 |[],i,f,h=>by simp at h
 |g::r,0,f,h=>by simp at h;subst h;rfl
 |g::r,i+1,f,h=>by
  have:=XG r i f (by simpa using h)
  rw[show(i+1)*3+1=i*3+1+1+1+1 by omega];simpa[zJ]using this
theorem XH:∀(l:List FS) (i:Nat) (f:FS),l[i]?=I f->(zJ l)[i*3+2]?=I (int i64 f.safe)
 |[],i,f,h=>by simp at h
 |g::r,0,f,h=>by simp at h;subst h;rfl
 |g::r,i+1,f,h=>by
  have:=XH r i f (by simpa using h)
  rw[show(i+1)*3+2=i*3+2+1+1+1 by omega];simpa[zJ]using this
theorem jB:∀(l:List FS) (i:Nat) (f:FS) (d:ByteArray),l[i]?=I f->zJ (l.set i {f with data:=d})=(zJ l).set (i*3+1) (.string d)
 |[],i,f,d,h=>by simp at h
 |g::r,0,f,d,h=>by simp at h;subst h;simp[zJ]
 |g::r,i+1,f,d,h=>by
  have:=jB r i f d (by simpa using h)
  rw[show(i+1)*3+1=i*3+1+1+1+1 by omega];simp[zJ,this]
theorem jC:∀(l:List FS) (i:Nat) (f:FS) (d:Nat),l[i]?=I f->zJ (l.set i {f with safe:=d})=(zJ l).set (i*3+2) (int i64 d)
 |[],i,f,d,h=>by simp at h
 |g::r,0,f,d,h=>by simp at h;subst h;simp[zJ]
 |g::r,i+1,f,d,h=>by
  have:=jC r i f d (by simpa using h)
  rw[show(i+1)*3+2=i*3+2+1+1+1 by omega];simp[zJ,this]
def eqS(a b:ByteArray):Bool:=a.toList==b.toList
def xc(name:ByteArray):Nat->List FS->Option Nat
 |_,[]=>none
 |k,f::r=>if eqS f.name name then I k else xc name (k+1) r
def xC(l:List FS)(name:ByteArray):Option Nat:=xc name 0 l
def qd(l:List FS)(name:ByteArray):Int:=match xC l name with|some i=>i|none=> -1
theorem jF(name:ByteArray):∀(k:Nat) (l:List FS),(∀f∈l,(eqS f.name name)=false)->xc name k l=none
 |_,[],_=>rfl
 |k,f::r,h=>by
  rw[xc,h f (by simp)]
  simpa using jF name (k+1) r (fun g a=>h g (by simp[a]))
theorem jG(name:ByteArray):∀(k:Nat) (l:List FS) (i:Nat) (f:FS),l[i]?=I f->(eqS f.name name)=true->(∀j g,j<i->l[j]?=I g->(eqS g.name name)=false)->xc name k l=I (k+i)
 |_,[],i,f,h,_,_=>by simp at h
 |k,g::r,0,f,h,a,_=>by simp at h;subst h;rw[xc,a];rfl
 |k,g::r,i+1,f,h,a,hn=>by
  rw[xc,hn 0 g (by omega) rfl]
  have:=jG name (k+1) r i f (by simpa using h) a (fun j b d c=>hn (j+1) b (by omega) (by simpa using c))
  simp only[Bool.false_eq_true,if_false]
  rw[this];congr 1;omega
theorem Jo{l:List FS}{name:ByteArray}(h:∀j f,j<l.length->l[j]?=I f->(eqS f.name name)=false):xC l name=none/\qd l name= -1:=by
 have:xC l name=none:=jF name 0 l (fun f b=>by
  obtain⟨j,a⟩:=List.getElem?_of_mem b
  exact h j f (List.getElem?_eq_some_iff.1 a).1 a)
 exact⟨this,by simp[qd,this]⟩
theorem Jp{l:List FS}{name:ByteArray}{i:Nat}{f:FS}(h:l[i]?=I f)(a:(eqS f.name name)=true)(hn:∀j g,j<i->l[j]?=I g->(eqS g.name name)=false):xC l name=I i/\qd l name=i:=by
 have:xC l name=I i:=by have:=jG name 0 l i f h a hn;simpa[xC]using this
 exact⟨this,by simp[qd,this]⟩
theorem ZW(name:ByteArray):∀(k:Nat) (l:List FS) (i:Nat),xc name k l=I i->k<=i/\∃f,l[i-k]?=I f/\(eqS f.name name)=true
 |_,[],i,h=>by cases h
 |k,f::r,i,h=>by
  rw[xc]at h
  by_cases e:(eqS f.name name)=true
  ·rw[if_pos e]at h;cases h;exact⟨Nat.le_refl _,f,by simp,e⟩
  ·rw[if_neg e]at h
   obtain⟨c,g,a,b⟩:=ZW name (k+1) r i h
   refine⟨by omega,g,?_,b⟩
   rw[show i-k=(i-(k+1))+1 by omega];simpa using a
theorem ym{l:List FS}{name:ByteArray}{i:Nat}(h:xC l name=I i):∃f,l[i]?=I f/\i<l.length/\(eqS f.name name)=true:=by
 obtain⟨_,f,a,b⟩:=ZW name 0 l i h
 exact⟨f,a,(List.getElem?_eq_some_iff.1 a).1,b⟩
theorem XI{l:List FS}{k:Nat}(h:k<l.length):∃f,l[k]?=I f:=⟨_,List.getElem?_eq_getElem h⟩
def zj(S:DS):Bool:=S.down||S.left==0
def zh(S:DS):DS:=if zj S then{S with down:=true}else{S with left:=if 0<S.left then S.left-1 else S.left}
def Yj(S:DS)(name data:ByteArray):DS:=
 match xC S.files name with
 |some i=>{S with files:=match S.files[i]? with|some f=>S.files.set i {f with data:=f.data++data}|none=>S.files}
 |none=>{S with files:=S.files++[⟨name,data,0⟩]}
def zeu(S:DS)(name:ByteArray):DS:=
 match xC S.files name with
 |some i=>{S with files:=match S.files[i]? with|some f=>S.files.set i {f with safe:=f.data.size}|none=>S.files}
 |none=>S
def Z8(l:List FS)(name:ByteArray):List FS:=l.filter fun f=>!eqS f.name name
def YQ(S:DS)(b a:ByteArray):DS:=
 match xC S.files b with
 |some i=>if eqS b a then S else{S with files:=match S.files[i]? with|some f=>Z8 (Z8 S.files b) a++[{f with name:=a}]|none=>S.files}
 |none=>S
def Ju(S:DS)(name:ByteArray):DS:={S with files:=Z8 S.files name}
def Qk(S:DS)(n:Int):DS:=if zj S then S else{S with left:=if n<0 then-1 else n}
def leftOf(a:Int)(f:FS):FS:=
 let n:=if a<(f.data.size:Int)-f.safe then(if a<0 then 0 else a.toNat)else f.data.size-f.safe
 ⟨f.name,f.data.extract 0 (f.safe+n),(f.data.extract 0 (f.safe+n)).size⟩
def DOk(S:DS)(N:Nat):Prop:= -1<=S.left/\S.left<=9223372036854775807/\S.files.length<=N/\∀f∈S.files,f.safe<=f.data.size/\f.data.size<=N
end Go.Proofs.YtndhpgciopcncaaGreatDoor
