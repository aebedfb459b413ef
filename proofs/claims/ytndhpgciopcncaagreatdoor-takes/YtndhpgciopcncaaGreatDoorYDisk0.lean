import Derived.WalkKit
open Option renaming some → I
open Go.Value (int)
open Go.IntKind (i64)
namespace Go.Proofs.YtndhpgciopcncaaGreatDoor
structure FS where
 name:ByteArray
 data:ByteArray
 safe:Nat
structure DS where
 files:List FS
 left:Int
 down:Bool
def zK:List FS->List Value
 |[]=>[]
 |f::r=> .string f.name:: .string f.data::int i64 f.safe::zK r
theorem vF:∀(l r:List FS),zK (l++r)=zK l++zK r
 |[],_=>rfl
 |f::l,r=>by simp[zK,vF l r]
theorem Qn:∀(l:List FS) (i:Nat) (f:FS),l[i]?=I f->(zK l)[i*3]?=I (.string f.name)
 |[],i,f,h=>by simp at h
 |g::r,0,f,h=>by simp at h;subst h;rfl
 |g::r,i+1,f,h=>by
  have:=Qn r i f (by simpa using h)
  rw[show(i+1)*3=i*3+1+1+1 by omega];simpa[zK]using this
theorem Qo:∀(l:List FS) (i:Nat) (f:FS),l[i]?=I f->(zK l)[i*3+1]?=I (.string f.data)
 |[],i,f,h=>by simp at h
 |g::r,0,f,h=>by simp at h;subst h;rfl
 |g::r,i+1,f,h=>by
  have:=Qo r i f (by simpa using h)
  rw[show(i+1)*3+1=i*3+1+1+1+1 by omega];simpa[zK]using this
theorem Qp:∀(l:List FS) (i:Nat) (f:FS),l[i]?=I f->(zK l)[i*3+2]?=I (int i64 f.safe)
 |[],i,f,h=>by simp at h
 |g::r,0,f,h=>by simp at h;subst h;rfl
 |g::r,i+1,f,h=>by
  have:=Qp r i f (by simpa using h)
  rw[show(i+1)*3+2=i*3+2+1+1+1 by omega];simpa[zK]using this
theorem jI:∀(l:List FS) (i:Nat) (f:FS) (d:ByteArray),l[i]?=I f->zK (l.set i {f with data:=d})=(zK l).set (i*3+1) (.string d)
 |[],i,f,d,h=>by simp at h
 |g::r,0,f,d,h=>by simp at h;subst h;simp[zK]
 |g::r,i+1,f,d,h=>by
  have:=jI r i f d (by simpa using h)
  rw[show(i+1)*3+1=i*3+1+1+1+1 by omega];simp[zK,this]
theorem jJ:∀(l:List FS) (i:Nat) (f:FS) (d:Nat),l[i]?=I f->zK (l.set i {f with safe:=d})=(zK l).set (i*3+2) (int i64 d)
 |[],i,f,d,h=>by simp at h
 |g::r,0,f,d,h=>by simp at h;subst h;simp[zK]
 |g::r,i+1,f,d,h=>by
  have:=jJ r i f d (by simpa using h)
  rw[show(i+1)*3+2=i*3+2+1+1+1 by omega];simp[zK,this]
def eqS(a b:ByteArray):Bool:=a.toList==b.toList
def xb(name:ByteArray):Nat->List FS->Option Nat
 |_,[]=>none
 |k,f::r=>if eqS f.name name then I k else xb name (k+1) r
def xv(l:List FS)(name:ByteArray):Option Nat:=xb name 0 l
def xY(l:List FS)(name:ByteArray):Int:=match xv l name with|some i=>i|none=> -1
theorem jO(name:ByteArray):∀(k:Nat) (l:List FS),(∀f∈l,(eqS f.name name)=false)->xb name k l=none
 |_,[],_=>rfl
 |k,f::r,h=>by
  rw[xb,h f (by simp)]
  simpa using jO name (k+1) r (fun g a=>h g (by simp[a]))
theorem jP(name:ByteArray):∀(k:Nat) (l:List FS) (i:Nat) (f:FS),l[i]?=I f->(eqS f.name name)=true->(∀j g,j<i->l[j]?=I g->(eqS g.name name)=false)->xb name k l=I (k+i)
 |_,[],i,f,h,_,_=>by simp at h
 |k,g::r,0,f,h,a,_=>by simp at h;subst h;rw[xb,a];rfl
 |k,g::r,i+1,f,h,a,hn=>by
  rw[xb,hn 0 g (by omega) rfl]
  have:=jP name (k+1) r i f (by simpa using h) a (fun j b d c=>hn (j+1) b (by omega) (by simpa using c))
  simp only[Bool.false_eq_true,if_false]
  rw[this];congr 1;omega
theorem zar{l:List FS}{name:ByteArray}(h:∀j f,j<l.length->l[j]?=I f->(eqS f.name name)=false):xv l name=none/\xY l name= -1:=by
 have:xv l name=none:=jO name 0 l (fun f b=>by
  obtain⟨j,a⟩:=List.getElem?_of_mem b
  exact h j f (List.getElem?_eq_some_iff.1 a).1 a)
 exact⟨this,by simp[xY,this]⟩
theorem zas{l:List FS}{name:ByteArray}{i:Nat}{f:FS}(h:l[i]?=I f)(a:(eqS f.name name)=true)(hn:∀j g,j<i->l[j]?=I g->(eqS g.name name)=false):xv l name=I i/\xY l name=i:=by
 have:xv l name=I i:=by have:=jP name 0 l i f h a hn;simpa[xv]using this
 exact⟨this,by simp[xY,this]⟩
theorem Xw(name:ByteArray):∀(k:Nat) (l:List FS) (i:Nat),xb name k l=I i->k<=i/\∃f,l[i-k]?=I f/\(eqS f.name name)=true
 |_,[],i,h=>by cases h
 |k,f::r,i,h=>by
  rw[xb]at h
  by_cases e:(eqS f.name name)=true
  ·rw[if_pos e]at h;cases h;exact⟨Nat.le_refl _,f,by simp,e⟩
  ·rw[if_neg e]at h
   obtain⟨c,g,a,b⟩:=Xw name (k+1) r i h
   refine⟨by omega,g,?_,b⟩
   rw[show i-k=(i-(k+1))+1 by omega];simpa using a
theorem yw{l:List FS}{name:ByteArray}{i:Nat}(h:xv l name=I i):∃f,l[i]?=I f/\i<l.length/\(eqS f.name name)=true:=by
 obtain⟨_,f,a,b⟩:=Xw name 0 l i h
 exact⟨f,a,(List.getElem?_eq_some_iff.1 a).1,b⟩
theorem Qs{l:List FS}{k:Nat}(h:k<l.length):∃f,l[k]?=I f:=⟨_,List.getElem?_eq_getElem h⟩
def zi(S:DS):Bool:=S.down||S.left==0
def zh(S:DS):DS:=if zi S then{S with down:=true}else{S with left:=if 0<S.left then S.left-1 else S.left}
def Kw(S:DS)(name data:ByteArray):DS:=
 match xv S.files name with
 |some i=>{S with files:=match S.files[i]? with|some f=>S.files.set i {f with data:=f.data++data}|none=>S.files}
 |none=>{S with files:=S.files++[⟨name,data,0⟩]}
def zfG(S:DS)(name:ByteArray):DS:=
 match xv S.files name with
 |some i=>{S with files:=match S.files[i]? with|some f=>S.files.set i {f with safe:=f.data.size}|none=>S.files}
 |none=>S
def Zf(l:List FS)(name:ByteArray):List FS:=l.filter fun f=>!eqS f.name name
def V8(S:DS)(b a:ByteArray):DS:=
 match xv S.files b with
 |some i=>if eqS b a then S else{S with files:=match S.files[i]? with|some f=>Zf (Zf S.files b) a++[{f with name:=a}]|none=>S.files}
 |none=>S
def zax(S:DS)(name:ByteArray):DS:={S with files:=Zf S.files name}
def XH(S:DS)(n:Int):DS:=if zi S then S else{S with left:=if n<0 then-1 else n}
def leftOf(a:Int)(f:FS):FS:=
 let n:=if a<(f.data.size:Int)-f.safe then(if a<0 then 0 else a.toNat)else f.data.size-f.safe
 ⟨f.name,f.data.extract 0 (f.safe+n),(f.data.extract 0 (f.safe+n)).size⟩
def DOk(S:DS)(N:Nat):Prop:= -1<=S.left/\S.left<=9223372036854775807/\S.files.length<=N/\∀f∈S.files,f.safe<=f.data.size/\f.data.size<=N
end Go.Proofs.YtndhpgciopcncaaGreatDoor
