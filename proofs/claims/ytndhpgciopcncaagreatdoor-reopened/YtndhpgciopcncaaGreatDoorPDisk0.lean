import Derived.Test.YtndhpgciopcncaaGreatDoorPAbb
import Derived.WalkKit
open Option renaming some → J
namespace Go.Proofs.YtndhpgciopcncaaGreatDoor
structure FS where
 name:ByteArray
 data:ByteArray
 safe:Nat
structure DS where
 files:List FS
 left:Int
 down:Bool
def zL:List FS->List Value
 |[]=>[]
 |f::r=> .string f.name:: .string f.data::I f.safe::zL r
theorem jP:∀(l r:List FS),zL (l++r)=zL l++zL r
 |[],_=>rfl
 |f::l,r=>by simp[zL,jP l r]
theorem YO:∀(l:List FS) (i:Nat) (f:FS),l[i]?=J f->(zL l)[i*3]?=J (.string f.name)
 |[],i,f,h=>by simp at h
 |g::r,0,f,h=>by simp at h;subst h;rfl
 |g::r,i+1,f,h=>by
  have:=YO r i f (by simpa using h)
  rw[show(i+1)*3=i*3+1+1+1 by omega];simpa[zL]using this
theorem YP:∀(l:List FS) (i:Nat) (f:FS),l[i]?=J f->(zL l)[i*3+1]?=J (.string f.data)
 |[],i,f,h=>by simp at h
 |g::r,0,f,h=>by simp at h;subst h;rfl
 |g::r,i+1,f,h=>by
  have:=YP r i f (by simpa using h)
  rw[show(i+1)*3+1=i*3+1+1+1+1 by omega];simpa[zL]using this
theorem YQ:∀(l:List FS) (i:Nat) (f:FS),l[i]?=J f->(zL l)[i*3+2]?=J (I f.safe)
 |[],i,f,h=>by simp at h
 |g::r,0,f,h=>by simp at h;subst h;rfl
 |g::r,i+1,f,h=>by
  have:=YQ r i f (by simpa using h)
  rw[show(i+1)*3+2=i*3+2+1+1+1 by omega];simpa[zL]using this
theorem ZT:∀(l:List FS) (i:Nat) (f:FS) (d:ByteArray),l[i]?=J f->zL (l.set i {f with data:=d})=(zL l).set (i*3+1) (.string d)
 |[],i,f,d,h=>by simp at h
 |g::r,0,f,d,h=>by simp at h;subst h;simp[zL]
 |g::r,i+1,f,d,h=>by
  have:=ZT r i f d (by simpa using h)
  rw[show(i+1)*3+1=i*3+1+1+1+1 by omega];simp[zL,this]
theorem ZU:∀(l:List FS) (i:Nat) (f:FS) (d:Nat),l[i]?=J f->zL (l.set i {f with safe:=d})=(zL l).set (i*3+2) (I d)
 |[],i,f,d,h=>by simp at h
 |g::r,0,f,d,h=>by simp at h;subst h;simp[zL]
 |g::r,i+1,f,d,h=>by
  have:=ZU r i f d (by simpa using h)
  rw[show(i+1)*3+2=i*3+2+1+1+1 by omega];simp[zL,this]
def eqS(a b:ByteArray):Bool:=a.toList==b.toList
def xh(name:ByteArray):Nat->List FS->Option Nat
 |_,[]=>none
 |k,f::r=>if eqS f.name name then J k else xh name (k+1) r
def xN(l:List FS)(name:ByteArray):Option Nat:=xh name 0 l
def qC(l:List FS)(name:ByteArray):Int:=match xN l name with|some i=>i|none=> -1
theorem ZY(name:ByteArray):∀(k:Nat) (l:List FS),(∀f∈l,(eqS f.name name)=false)->xh name k l=none
 |_,[],_=>rfl
 |k,f::r,h=>by
  rw[xh,h f (by simp)]
  simpa using ZY name (k+1) r (fun g a=>h g (by simp[a]))
theorem ZZ(name:ByteArray):∀(k:Nat) (l:List FS) (i:Nat) (f:FS),l[i]?=J f->(eqS f.name name)=true->(∀j g,j<i->l[j]?=J g->(eqS g.name name)=false)->xh name k l=J (k+i)
 |_,[],i,f,h,_,_=>by simp at h
 |k,g::r,0,f,h,a,_=>by simp at h;subst h;rw[xh,a];rfl
 |k,g::r,i+1,f,h,a,hn=>by
  rw[xh,hn 0 g (by omega) rfl]
  have:=ZZ name (k+1) r i f (by simpa using h) a (fun j b d c=>hn (j+1) b (by omega) (by simpa using c))
  simp only[Bool.false_eq_true,if_false]
  rw[this];congr 1;omega
theorem zcM{l:List FS}{name:ByteArray}(h:∀j f,j<l.length->l[j]?=J f->(eqS f.name name)=false):xN l name=none/\qC l name= -1:=by
 have:xN l name=none:=ZY name 0 l (fun f b=>by
  obtain⟨j,a⟩:=List.getElem?_of_mem b
  exact h j f (List.getElem?_eq_some_iff.1 a).1 a)
 exact⟨this,by simp[qC,this]⟩
theorem zcN{l:List FS}{name:ByteArray}{i:Nat}{f:FS}(h:l[i]?=J f)(a:(eqS f.name name)=true)(hn:∀j g,j<i->l[j]?=J g->(eqS g.name name)=false):xN l name=J i/\qC l name=i:=by
 have:xN l name=J i:=by have:=ZZ name 0 l i f h a hn;simpa[xN]using this
 exact⟨this,by simp[qC,this]⟩
theorem QQ(name:ByteArray):∀(k:Nat) (l:List FS) (i:Nat),xh name k l=J i->k<=i/\∃f,l[i-k]?=J f/\(eqS f.name name)=true
 |_,[],i,h=>by cases h
 |k,f::r,i,h=>by
  rw[xh]at h
  by_cases e:(eqS f.name name)=true
  ·rw[if_pos e]at h;cases h;exact⟨Nat.le_refl _,f,by simp,e⟩
  ·rw[if_neg e]at h
   obtain⟨c,g,a,b⟩:=QQ name (k+1) r i h
   refine⟨by omega,g,?_,b⟩
   rw[show i-k=(i-(k+1))+1 by omega];simpa using a
theorem kh{l:List FS}{name:ByteArray}{i:Nat}(h:xN l name=J i):∃f,l[i]?=J f/\i<l.length/\(eqS f.name name)=true:=by
 obtain⟨_,f,a,b⟩:=QQ name 0 l i h
 exact⟨f,a,(List.getElem?_eq_some_iff.1 a).1,b⟩
theorem XO{l:List FS}{k:Nat}(h:k<l.length):∃f,l[k]?=J f:=⟨_,List.getElem?_eq_getElem h⟩
def zo(S:DS):Bool:=S.down||S.left==0
def zm(S:DS):DS:=if zo S then{S with down:=true}else{S with left:=if 0<S.left then S.left-1 else S.left}
def J4(S:DS)(name data:ByteArray):DS:=
 match xN S.files name with
 |some i=>{S with files:=match S.files[i]? with|some f=>S.files.set i {f with data:=f.data++data}|none=>S.files}
 |none=>{S with files:=S.files++[⟨name,data,0⟩]}
def zjF(S:DS)(name:ByteArray):DS:=
 match xN S.files name with
 |some i=>{S with files:=match S.files[i]? with|some f=>S.files.set i {f with safe:=f.data.size}|none=>S.files}
 |none=>S
def Xw(l:List FS)(name:ByteArray):List FS:=l.filter fun f=>!eqS f.name name
def JL(S:DS)(b a:ByteArray):DS:=
 match xN S.files b with
 |some i=>if eqS b a then S else{S with files:=match S.files[i]? with|some f=>Xw (Xw S.files b) a++[{f with name:=a}]|none=>S.files}
 |none=>S
def zcW(S:DS)(name:ByteArray):DS:={S with files:=Xw S.files name}
def Q7(S:DS)(n:Int):DS:=if zo S then S else{S with left:=if n<0 then-1 else n}
def leftOf(keep:Int)(f:FS):FS:=
 let n:=if keep<(f.data.size:Int)-f.safe then(if keep<0 then 0 else keep.toNat)else f.data.size-f.safe
 ⟨f.name,f.data.extract 0 (f.safe+n),(f.data.extract 0 (f.safe+n)).size⟩
def zck(S:DS)(keep:Int):DS:=⟨S.files.map (leftOf keep),-1,false⟩
def DOk(S:DS)(N:Nat):Prop:= -1<=S.left/\S.left<=9223372036854775807/\S.files.length<=N/\∀f∈S.files,f.safe<=f.data.size/\f.data.size<=N
end Go.Proofs.YtndhpgciopcncaaGreatDoor
