import Derived.Test.YtpbimdkclnekeaaGreatVDisk1
import Derived.Deep.WholeRow
open Option renaming some → I
open Option renaming none → J
open Go.Value (int)
open Go.IntKind (i64)
set_option linter.unusedVariables false
set_option maxHeartbeats 1000000
open Go.Proofs.Tryz
namespace Go.Proofs.YtpbimdkclnekeaaGreat
open Go.RowKit
theorem Tryz.infoFile:(prog.info? 185).map (fun i=>(i.zero,i.size,i.bytes))=I (I (.agg #[.string ByteArray.empty,.string ByteArray.empty,int i64 0]),3,40):=by kernel_rfl
section
variable {T e:TypeId} {B:Nat} {w:World} {p:Nat} {S:DS} {fs:Value}
theorem zR.at{g n cap:Nat}(h:zR T e B w p S (.slice (I ⟨g,0,J⟩) n cap)){i:Nat}{f:FS}(c:S.files[i]?=I f):
  w.cell? ⟨g,i*3,J⟩=I (.string f.name)/\w.cell? ⟨g,i*3+1,J⟩=I (.string f.data)/\w.cell? ⟨g,i*3+2,J⟩=I (int i64 f.safe)/\(∀j,w.frozen? ⟨g,j,J⟩=false):=by
 obtain⟨l,b,hv,_,_,k,d⟩:=h.files (by have:=(List.getElem?_eq_some_iff.1 c).1;omega)
 injection hv with a m o
 injection a with a
 injection a with a
 subst a
 obtain⟨x,y,z⟩:=d i f c
 exact⟨x,y,z,k⟩
theorem zR.setData(h:zR T e B w p S fs)(l:T≠e){g cap:Nat}(a:fs=.slice (I ⟨g,0,J⟩) S.files.length cap){i:Nat}{f:FS}(m:S.files[i]?=I f)(d:ByteArray):
  zR T e B (w.setCell ⟨g,i*3+1,J⟩ (.string d)) p {S with files:=S.files.set i {f with data:=d}} fs/\zk (foot p fs) w (w.setCell ⟨g,i*3+1,J⟩ (.string d)):=by
 have c:fs.ownBlock=I g:=by rw[a];rfl
 have b:p≠g:=fun e=>h.apart l (e▸c)
 have j:=h.row
 rw[a]at j
 have k:=j.stored (i*3+1) (.string d)
 rw[<-Zg _ _ _ d m]at k
 refine⟨⟨?_,h.base,?_⟩,(zk.refl (foot p fs) w).setCell (fun _=> .inr c) _⟩
 ·rw[Below.heap_setCell _ _ _ _ b];exact h.head
 ·rw[a];simpa using k.1
theorem zR.setSafe(h:zR T e B w p S fs)(l:T≠e){g cap:Nat}(a:fs=.slice (I ⟨g,0,J⟩) S.files.length cap){i:Nat}{f:FS}(m:S.files[i]?=I f)(d:Nat):
  zR T e B (w.setCell ⟨g,i*3+2,J⟩ (int i64 d)) p {S with files:=S.files.set i {f with safe:=d}} fs/\zk (foot p fs) w (w.setCell ⟨g,i*3+2,J⟩ (int i64 d)):=by
 have c:fs.ownBlock=I g:=by rw[a];rfl
 have b:p≠g:=fun e=>h.apart l (e▸c)
 have j:=h.row
 rw[a]at j
 have k:=j.stored (i*3+2) (int i64 d)
 rw[<-Zh _ _ _ d m]at k
 refine⟨⟨?_,h.base,?_⟩,(zk.refl (foot p fs) w).setCell (fun _=> .inr c) _⟩
 ·rw[Below.heap_setCell _ _ _ _ b];exact h.head
 ·rw[a];simpa using k.1
theorem zR.setFiles{d:World}(h:zR T e B d p S fs)(n:T≠e)(o:zk (foot p fs) d w)(q:w.1[p]?=d.1[p]?){c:Value}{l:List FS}(a:w.ownsRow B e 3 c l.length (xe l)):
  zR T e B (w.setCell ⟨p,0,J⟩ c) p {S with files:=l} c/\zk (foot p fs) d (w.setCell ⟨p,0,J⟩ c):=by
 have j:w.1[p]?=I (.cells #[fs,int i64 S.left,.bool S.down] T (0,0)):=q.trans h.head
 have f:zk (fun k=>k=p) w (w.setCell ⟨p,0,J⟩ c):=(zk.refl (fun k=>k=p) w).setCell (fun _=>rfl) _
 refine⟨⟨by rw[zlw j];rfl,h.base,zi a f (fun k g i=>?_)⟩,o.setCell (fun _=> .inl rfl) _⟩
 subst i
 obtain⟨m,b⟩:=zO a g
 rw[j]at b
 injection b with b;injection b with _ b;exact n b
end
def qL(S:DS)(name data:ByteArray):DS:=if zH S then zQ S else KU (zQ S) name data
theorem zW(S:DS):(zQ S).files=S.files:=by unfold zQ;split<;>rfl
theorem Qo{S:DS}{c b:ByteArray}{i:Nat}{f:FS}(e:zH S=false)(a:kE S.files c=I i)(d:S.files[i]?=I f):qL S c b={zQ S with files:=(zQ S).files.set i {f with data:=f.data++b}}:=by
 simp[qL,e,KU,zW,a,d]
theorem jm{S:DS}{b c:ByteArray}(d:zH S=false)(a:kE S.files b=J):qL S b c={zQ S with files:=(zQ S).files++[⟨b,c,0⟩]}:=by
 simp[qL,d,KU,zW,a]
theorem Zw{S:DS}{c a:ByteArray}(b:zH S=true):qL S c a=zQ S:=by simp[qL,b]
theorem YM(B:Nat)(p:Nat)(S:DS)(fs:Value)(j g:ByteArray)(w:World)(c: -1<=S.left)(d:S.left<=9223372036854775807)(f:zH S=true)(h:zR 119 185 B w p S fs):
  Calls prog 121 #[.pointer (I ⟨p,0,J⟩),.string j,.string g] w fun e w'=>e=.returned (.bool false)/\zR 119 185 B w' p (zQ S) fs/\zk (foot p fs) w w':=by
 have a:=ze (Za B p S fs w ⟨c,d⟩ h)
 rw[f]at a
 clear f
 go_enter func121,ntmps121
 go_wp2_with(go_at_call 173;refine(ud a).mono ?_;rintro e k ⟨rfl,i,b⟩)
 go_ret
 exact⟨rfl,i,b⟩
theorem zax(B:Nat)(p:Nat)(S:DS)(fs:Value)(n b:ByteArray)(w:World)(N:Nat)(A:N<=1099511627776)(u:DOk S N)(D:b.size<=1099511627776)(y:zH S=false)(i:Nat)(f:FS)(k:kE S.files n=I i)(q:S.files[i]?=I f)(h:zR 119 185 B w p S fs):
  Calls prog 121 #[.pointer (I ⟨p,0,J⟩),.string n,.string b] w fun e w'=>e=.returned (.bool true)/\zR 119 185 B w' p {zQ S with files:=(zQ S).files.set i {f with data:=f.data++b}} fs/\zk (foot p fs) w w':=by
 obtain⟨s,t,hn,a⟩:=u
 have c:=ze (Za B p S fs w ⟨s,t⟩ h)
 rw[y]at c
 have H:i<S.files.length:=(List.getElem?_eq_some_iff.1 q).1
 have K:(i:Int)<S.files.length:=by omega
 have G:¬(i:Int)<0:=by omega
 have E:=(a f (List.mem_of_getElem? q)).2
 have l:f.data.size+b.size<=9223372036854775807:=by omega
 have x:=fun M=>run_string_add_sum (P:=prog) (w:=M) f.data b l
 have o:Hid (ki (zQ S).files n=i):=by show _=_;simp[ki,zW,k]
 have d:(zQ S).files[i]?=I f:=by rw[zW];exact q
 have v:=ze d
 have j:(zQ S).files.length<=N:=by rw[zW];exact hn
 have z:Hid (S.files.length=(zQ S).files.length):=by show _=_;rw[zW]
 obtain⟨g,cap,rfl,-⟩:=h.files (by omega)
 clear y k d a
 go_enter func121,ntmps121
 go_wp2_with(first
  |(go_at_call 173;refine(ud c).mono ?_;rintro e Q ⟨rfl,m,r⟩;have O:=m.c0;obtain⟨T,U,V,W⟩:=m.at (ud v))
  |(go_at_call 174;refine(jT B p (zQ S) _ n _ N A j m).mono ?_;rintro e R ⟨rfl,rfl⟩;rw[ud o]))
 go_ret
 obtain⟨C,L⟩:=m.setData (by decide) (by rw[ud z]) (ud v) (f.data++b)
 exact⟨rfl,C,r.trans L (fun _ _ F=>F)⟩
theorem YS(d:ByteArray):(⟨#[]⟩++d:ByteArray)=d:=by
 cases d with
 |mk data=>apply ByteArray.ext;simp
theorem zdD{w:World}{B:Nat}{e:TypeId}{v:Value}{l:List FS}{f:FS}{n:Nat}(hn:n=l.length)(h:w.ownsRow B e 3 v (n+1) (xe l++[.string f.name,.string f.data,int i64 f.safe])):w.ownsRow B e 3 v (l++[f]).length (xe (l++[f])):=by
 subst hn
 rw[jn];simpa[xe]using h
theorem zaw(B:Nat)(p:Nat)(S:DS)(fs:Value)(c m:ByteArray)(w:World)(N:Nat)(Z:N<=1099511627776)(M:DOk S N)(a0:m.size<=1099511627776)(hB:B<=w.1.size)(W:zH S=false)(A:kE S.files c=J)(h:zR 119 185 B w p S fs):
  Calls prog 121 #[.pointer (I ⟨p,0,J⟩),.string c,.string m] w fun e w'=>e=.returned (.bool true)/\∃v,zR 119 185 B w' p {zQ S with files:=(zQ S).files++[⟨c,m,0⟩]} v/\zk (foot p fs) w w'/\∀k,v.ownBlock=I k->fs.ownBlock=I k\/w.1.size<=k:=by
 obtain⟨K,L,hn,x⟩:=M
 have t:=ze (Za B p S fs w ⟨K,L⟩ h)
 rw[W]at t
 have E:Hid (ki (zQ S).files c= -1):=by show _=_;simp[ki,zW,A]
 have z:(zQ S).files.length<=N:=by rw[zW];exact hn
 have r:Hid ((zQ S).files.length=S.files.length):=by show _=_;rw[zW]
 obtain⟨a,l,rfl⟩:=zcr h.row
 have T:=fun wx=>run_string_add_sum (P:=prog) (w:=wx) ⟨#[]⟩ m (by show 0+m.size<=_;omega)
 clear W A x h
 go_enter func121,ntmps121
 go_wp2_with(first
  |(at_builtin
    refine zP rfl _ _ 117 rfl B 185 _ 3 40 underlying117 Tryz.infoFile rfl (by decide) (.slice a S.files.length l) S.files.length (xe (zQ S).files) rfl ?n ⟨Q.1.size,0,J⟩ 1 1 [.string c,.string ⟨#[]⟩,int i64 0] rfl rfl ?hnews ?j (by decide) ?h63 ?hbytes ?hbase ?_
    case n=>(have:=j.row;rw[ud r]at this;exact this.alloc _)
    case hnews=>exact World.news_of_block (heap_alloc_last _ _)
    case j=>(intro u X;simp at X;rcases X with rfl|rfl|rfl<;>rfl)
    case h63=>(simp only[maxLen];omega)
    case hbytes=>omega
    case hbase=>(have:=o.size;simp;omega)
    intro g cap D n V d b a1
    have O:=j.lt
    have q:D.1[p]?=Q.1[p]?:=(d.block p (by simp;omega) (fun e=>j.apart (by decide) e.symm)).trans (Below.heap_alloc _ _ _ O)
    have H:zk (foot p (.slice a S.files.length l)) Q D:=((zk.refl _ _).alloc _).grown d (fun k G _=> .inr G)
    have C:=zdD (f:=⟨c,⟨#[]⟩,0⟩) (ud r).symm n
    obtain⟨F,Y⟩:=j.setFiles (by decide) H q C
    have e0:=F.c0
    obtain⟨e1,e2,e3,e4⟩:=F.at (i:=S.files.length) (f:=⟨c,⟨#[]⟩,0⟩) (by simp[ud r])
    have d0:D.cell? ⟨p,0,J⟩=_:=(World.cell?_of_block (a:=⟨p,0,J⟩) q).trans j.c0
    have d1:D.frozen? ⟨p,0,J⟩=false:=(World.frozen?_of_block (a:=⟨p,0,J⟩) q).trans (j.free 0))
  |(go_at_call 173;refine(ud t).mono ?_;rintro e w1 ⟨rfl,j,o⟩;have c0:=j.c0)
  |(go_at_call 174;refine(jT B p (zQ S) _ c _ N Z z j).mono ?_;rintro e Q ⟨rfl,rfl⟩;rw[ud E]))
 go_ret
 obtain⟨R,G⟩:=F.setData (by decide) (g:=g) (cap:=cap) (by simp[ud r]) (i:=S.files.length) (f:=⟨c,⟨#[]⟩,0⟩) (by simp[ud r]) (⟨#[]⟩++m)
 refine⟨rfl,.slice (I ⟨g,0,J⟩) (S.files.length+1) cap,?_,o.trans (Y.trans G (fun k U s=>?_)) (fun _ _ s=>s),fun k y=>?_⟩
 ·rw[YS]at R ⊢
  have e:((zQ S).files++[(⟨c,⟨#[]⟩,0⟩:FS)]).set S.files.length ⟨c,m,0⟩=(zQ S).files++[⟨c,m,0⟩]:=by
   rw[<-ud r];simp
  rw[<-e];exact R
 ·rcases s with rfl|s
  ·exact .inl rfl
  ·simp[Value.ownBlock]at s
   subst s
   rcases b with b|b
   ·exact .inr b
   ·simp at b;omega
 ·simp[Value.ownBlock]at y
  subst y
  rcases b with b|b
  ·exact .inl b
  ·right;have:=o.size;simp at b;omega
theorem zcH(B:Nat)(p:Nat)(S:DS)(fs:Value)(g c:ByteArray)(w:World)(N:Nat)(r:N<=1099511627776)(b:DOk S N)(l:c.size<=1099511627776)(t:B<=w.1.size)(h:zR 119 185 B w p S fs):
  Calls prog 121 #[.pointer (I ⟨p,0,J⟩),.string g,.string c] w fun e w'=>e=.returned (.bool (!zH S))/\∃j,zR 119 185 B w' p (qL S g c) j/\zk (foot p fs) w w'/\∀k,j.ownBlock=I k->fs.ownBlock=I k\/w.1.size<=k:=by
 cases d:zH S
 ·cases a:kE S.files g with
  |none=>rw[jm d a];exact zaw B p S fs g c w N r b l t d a h
  |some i=>
   obtain⟨f,s,_,_⟩:=XO a
   rw[Qo d a s]
   exact(zax B p S fs g c w N r b l d i f a s h).mono fun e w' ⟨m,n,o⟩=>⟨m,fs,n,o,fun k q=> .inl q⟩
 ·rw[Zw d]
  exact(YM B p S fs g c w b.1 b.2.1 d h).mono fun e w' ⟨m,n,o⟩=>⟨m,fs,n,o,fun k q=> .inl q⟩
end Go.Proofs.YtpbimdkclnekeaaGreat
