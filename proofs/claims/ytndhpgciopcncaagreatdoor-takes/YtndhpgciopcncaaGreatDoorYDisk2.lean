import Derived.Test.YtndhpgciopcncaaGreatDoorYDisk1
import Derived.Deep.WholeRow
open Option renaming some → I
open Option renaming none → J
open Go.Value (int)
open Go.IntKind (i64)
set_option linter.unusedVariables false
set_option maxHeartbeats 1000000
open Go.Proofs.Tryz
namespace Go.Proofs.YtndhpgciopcncaaGreatDoor
open Go.RowKit
theorem Tryz.infoFile:(prog.info? 113).map (fun i=>(i.zero,i.size,i.bytes))=I (I (.agg #[.string ByteArray.empty,.string ByteArray.empty,int i64 0]),3,40):=by kernel_rfl
section
variable {T e:TypeId} {B:Nat} {w:World} {p:Nat} {S:DS} {fs:Value}
theorem zv.at{g n cap:Nat}(h:zv T e B w p S (.slice (I ⟨g,0,J⟩) n cap)){i:Nat}{f:FS}(c:S.files[i]?=I f):
  w.cell? ⟨g,i*3,J⟩=I (.string f.name)/\w.cell? ⟨g,i*3+1,J⟩=I (.string f.data)/\w.cell? ⟨g,i*3+2,J⟩=I (int i64 f.safe)/\(∀j,w.frozen? ⟨g,j,J⟩=false):=by
 obtain⟨l,b,hv,_,_,k,d⟩:=h.files (by have:=(List.getElem?_eq_some_iff.1 c).1;omega)
 injection hv with a m o
 injection a with a
 injection a with a
 subst a
 obtain⟨x,y,z⟩:=d i f c
 exact⟨x,y,z,k⟩
theorem zv.setData(h:zv T e B w p S fs)(l:T≠e){g cap:Nat}(a:fs=.slice (I ⟨g,0,J⟩) S.files.length cap){i:Nat}{f:FS}(m:S.files[i]?=I f)(d:ByteArray):
  zv T e B (w.setCell ⟨g,i*3+1,J⟩ (.string d)) p {S with files:=S.files.set i {f with data:=d}} fs/\zk (foot p fs) w (w.setCell ⟨g,i*3+1,J⟩ (.string d)):=by
 have c:fs.ownBlock=I g:=by rw[a];rfl
 have b:p≠g:=fun e=>h.apart l (e▸c)
 have j:=h.row
 rw[a]at j
 have k:=j.stored (i*3+1) (.string d)
 rw[<-jI _ _ _ d m]at k
 refine⟨⟨?_,h.base,?_⟩,(zk.refl (foot p fs) w).setCell (fun _=> .inr c) _⟩
 ·rw[Below.heap_setCell _ _ _ _ b];exact h.head
 ·rw[a];simpa using k.1
theorem zv.setSafe(h:zv T e B w p S fs)(l:T≠e){g cap:Nat}(a:fs=.slice (I ⟨g,0,J⟩) S.files.length cap){i:Nat}{f:FS}(m:S.files[i]?=I f)(d:Nat):
  zv T e B (w.setCell ⟨g,i*3+2,J⟩ (int i64 d)) p {S with files:=S.files.set i {f with safe:=d}} fs/\zk (foot p fs) w (w.setCell ⟨g,i*3+2,J⟩ (int i64 d)):=by
 have c:fs.ownBlock=I g:=by rw[a];rfl
 have b:p≠g:=fun e=>h.apart l (e▸c)
 have j:=h.row
 rw[a]at j
 have k:=j.stored (i*3+2) (int i64 d)
 rw[<-jJ _ _ _ d m]at k
 refine⟨⟨?_,h.base,?_⟩,(zk.refl (foot p fs) w).setCell (fun _=> .inr c) _⟩
 ·rw[Below.heap_setCell _ _ _ _ b];exact h.head
 ·rw[a];simpa using k.1
theorem zv.setFiles{d:World}(h:zv T e B d p S fs)(n:T≠e)(o:zk (foot p fs) d w)(q:w.1[p]?=d.1[p]?){c:Value}{l:List FS}(a:w.ownsRow B e 3 c l.length (zK l)):
  zv T e B (w.setCell ⟨p,0,J⟩ c) p {S with files:=l} c/\zk (foot p fs) d (w.setCell ⟨p,0,J⟩ c):=by
 have j:w.1[p]?=I (.cells #[fs,int i64 S.left,.bool S.down] T (0,0)):=q.trans h.head
 have f:zk (fun k=>k=p) w (w.setCell ⟨p,0,J⟩ c):=(zk.refl (fun k=>k=p) w).setCell (fun _=>rfl) _
 refine⟨⟨by rw[zkm j];rfl,h.base,zg a f (fun k g i=>?_)⟩,o.setCell (fun _=> .inl rfl) _⟩
 subst i
 obtain⟨m,b⟩:=zz a g
 rw[j]at b
 injection b with b;injection b with _ b;exact n b
end
def zC(S:DS)(name data:ByteArray):DS:=if zi S then zh S else Kw (zh S) name data
theorem zn(S:DS):(zh S).files=S.files:=by unfold zh;split<;>rfl
theorem yJ{S:DS}{c b:ByteArray}{i:Nat}{f:FS}(e:zi S=false)(a:xv S.files c=I i)(d:S.files[i]?=I f):zC S c b={zh S with files:=(zh S).files.set i {f with data:=f.data++b}}:=by
 simp[zC,e,Kw,zn,a,d]
theorem qh{S:DS}{b c:ByteArray}(d:zi S=false)(a:xv S.files b=J):zC S b c={zh S with files:=(zh S).files++[⟨b,c,0⟩]}:=by
 simp[zC,d,Kw,zn,a]
theorem ko{S:DS}{c a:ByteArray}(b:zi S=true):zC S c a=zh S:=by simp[zC,b]
theorem Yr(B:Nat)(p:Nat)(S:DS)(fs:Value)(j g:ByteArray)(w:World)(c: -1<=S.left)(d:S.left<=9223372036854775807)(f:zi S=true)(h:zv 111 113 B w p S fs):
  Calls prog 126 #[.pointer (I ⟨p,0,J⟩),.string j,.string g] w fun e w'=>e=.returned (.bool false)/\zv 111 113 B w' p (zh S) fs/\zk (foot p fs) w w':=by
 have a:=zd (qL B p S fs w ⟨c,d⟩ h)
 rw[f]at a
 clear f
 go_enter func126,ntmps126
 go_wp2_with(go_at_call 197;refine(ud a).mono ?_;rintro e k ⟨rfl,i,b⟩)
 go_ret
 exact⟨rfl,i,b⟩
theorem JO(B:Nat)(p:Nat)(S:DS)(fs:Value)(n b:ByteArray)(w:World)(N:Nat)(A:N<=1099511627776)(u:DOk S N)(D:b.size<=1099511627776)(y:zi S=false)(i:Nat)(f:FS)(k:xv S.files n=I i)(q:S.files[i]?=I f)(h:zv 111 113 B w p S fs):
  Calls prog 126 #[.pointer (I ⟨p,0,J⟩),.string n,.string b] w fun e w'=>e=.returned (.bool true)/\zv 111 113 B w' p {zh S with files:=(zh S).files.set i {f with data:=f.data++b}} fs/\zk (foot p fs) w w':=by
 obtain⟨s,t,hn,a⟩:=u
 have c:=zd (qL B p S fs w ⟨s,t⟩ h)
 rw[y]at c
 have H:i<S.files.length:=(List.getElem?_eq_some_iff.1 q).1
 have K:(i:Int)<S.files.length:=by omega
 have G:¬(i:Int)<0:=by omega
 have E:=(a f (List.mem_of_getElem? q)).2
 have l:f.data.size+b.size<=9223372036854775807:=by omega
 have x:=fun M=>run_string_add_sum (P:=prog) (w:=M) f.data b l
 have o:Hid (xY (zh S).files n=i):=by show _=_;simp[xY,zn,k]
 have d:(zh S).files[i]?=I f:=by rw[zn];exact q
 have v:=zd d
 have j:(zh S).files.length<=N:=by rw[zn];exact hn
 have z:Hid (S.files.length=(zh S).files.length):=by show _=_;rw[zn]
 obtain⟨g,cap,rfl,-⟩:=h.files (by omega)
 clear y k d a
 go_enter func126,ntmps126
 go_wp2_with(first
  |(go_at_call 197;refine(ud c).mono ?_;rintro e Q ⟨rfl,m,r⟩;have O:=m.c0;obtain⟨T,U,V,W⟩:=m.at (ud v))
  |(go_at_call 198;refine(qZ B p (zh S) _ n _ N A j m).mono ?_;rintro e R ⟨rfl,rfl⟩;rw[ud o]))
 go_ret
 obtain⟨C,L⟩:=m.setData (by decide) (by rw[ud z]) (ud v) (f.data++b)
 exact⟨rfl,C,r.trans L (fun _ _ F=>F)⟩
theorem Yv(d:ByteArray):(⟨#[]⟩++d:ByteArray)=d:=by
 cases d with
 |mk data=>apply ByteArray.ext;simp
theorem Ke{w:World}{B:Nat}{e:TypeId}{v:Value}{l:List FS}{f:FS}{n:Nat}(hn:n=l.length)(h:w.ownsRow B e 3 v (n+1) (zK l++[.string f.name,.string f.data,int i64 f.safe])):w.ownsRow B e 3 v (l++[f]).length (zK (l++[f])):=by
 subst hn
 rw[vF];simpa[zK]using h
theorem JN(B:Nat)(p:Nat)(S:DS)(fs:Value)(c m:ByteArray)(w:World)(N:Nat)(Z:N<=1099511627776)(M:DOk S N)(a0:m.size<=1099511627776)(hB:B<=w.1.size)(W:zi S=false)(A:xv S.files c=J)(h:zv 111 113 B w p S fs):
  Calls prog 126 #[.pointer (I ⟨p,0,J⟩),.string c,.string m] w fun e w'=>e=.returned (.bool true)/\∃v,zv 111 113 B w' p {zh S with files:=(zh S).files++[⟨c,m,0⟩]} v/\zk (foot p fs) w w'/\∀k,v.ownBlock=I k->fs.ownBlock=I k\/w.1.size<=k:=by
 obtain⟨K,L,hn,x⟩:=M
 have t:=zd (qL B p S fs w ⟨K,L⟩ h)
 rw[W]at t
 have E:Hid (xY (zh S).files c= -1):=by show _=_;simp[xY,zn,A]
 have z:(zh S).files.length<=N:=by rw[zn];exact hn
 have r:Hid ((zh S).files.length=S.files.length):=by show _=_;rw[zn]
 obtain⟨a,l,rfl⟩:=Vg h.row
 have T:=fun wx=>run_string_add_sum (P:=prog) (w:=wx) ⟨#[]⟩ m (by show 0+m.size<=_;omega)
 clear W A x h
 go_enter func126,ntmps126
 go_wp2_with(first
  |(at_builtin
    refine zJ rfl _ _ 109 rfl B 113 _ 3 40 underlying109 Tryz.infoFile rfl (by decide) (.slice a S.files.length l) S.files.length (zK (zh S).files) rfl ?n ⟨Q.1.size,0,J⟩ 1 1 [.string c,.string ⟨#[]⟩,int i64 0] rfl rfl ?hnews ?j (by decide) ?h63 ?hbytes ?hbase ?_
    case n=>(have:=j.row;rw[ud r]at this;exact this.alloc _)
    case hnews=>exact World.news_of_block (heap_alloc_last _ _)
    case j=>(intro u X;simp at X;rcases X with rfl|rfl|rfl<;>rfl)
    case h63=>(simp only[maxLen];omega)
    case hbytes=>omega
    case hbase=>(have:=o.size;simp;omega)
    intro g cap D n V d b a1
    have O:=j.lt
    have q:D.1[p]?=Q.1[p]?:=(d.block p (by simp;omega) (fun e=>j.apart (by decide) e.symm)).trans (Below.heap_alloc _ _ _ O)
    have H:zk (foot p (.slice a S.files.length l)) Q D:=((zk.refl _ _).alloc _).grown d (fun k G _=> .inr G)
    have C:=Ke (f:=⟨c,⟨#[]⟩,0⟩) (ud r).symm n
    obtain⟨F,Y⟩:=j.setFiles (by decide) H q C
    have e0:=F.c0
    obtain⟨e1,e2,e3,e4⟩:=F.at (i:=S.files.length) (f:=⟨c,⟨#[]⟩,0⟩) (by simp[ud r])
    have d0:D.cell? ⟨p,0,J⟩=_:=(World.cell?_of_block (a:=⟨p,0,J⟩) q).trans j.c0
    have d1:D.frozen? ⟨p,0,J⟩=false:=(World.frozen?_of_block (a:=⟨p,0,J⟩) q).trans (j.free 0))
  |(go_at_call 197;refine(ud t).mono ?_;rintro e w1 ⟨rfl,j,o⟩;have c0:=j.c0)
  |(go_at_call 198;refine(qZ B p (zh S) _ c _ N Z z j).mono ?_;rintro e Q ⟨rfl,rfl⟩;rw[ud E]))
 go_ret
 obtain⟨R,G⟩:=F.setData (by decide) (g:=g) (cap:=cap) (by simp[ud r]) (i:=S.files.length) (f:=⟨c,⟨#[]⟩,0⟩) (by simp[ud r]) (⟨#[]⟩++m)
 refine⟨rfl,.slice (I ⟨g,0,J⟩) (S.files.length+1) cap,?_,o.trans (Y.trans G (fun k U s=>?_)) (fun _ _ s=>s),fun k y=>?_⟩
 ·rw[Yv]at R ⊢
  have e:((zh S).files++[(⟨c,⟨#[]⟩,0⟩:FS)]).set S.files.length ⟨c,m,0⟩=(zh S).files++[⟨c,m,0⟩]:=by
   rw[<-ud r];simp
  rw[<-e];exact R
 ·rcases s with rfl|s
  ·exact .inl rfl
  ·simp[Value.ownBlock]at s
   subst s
   rcases b with b|b
   ·exact .inr b
   ·simp at b;omega
 ·simp[Value.ownBlock]at y
  subst y
  rcases b with b|b
  ·exact .inl b
  ·right;have:=o.size;simp at b;omega
theorem ZX(B:Nat)(p:Nat)(S:DS)(fs:Value)(g c:ByteArray)(w:World)(N:Nat)(r:N<=1099511627776)(b:DOk S N)(l:c.size<=1099511627776)(t:B<=w.1.size)(h:zv 111 113 B w p S fs):
  Calls prog 126 #[.pointer (I ⟨p,0,J⟩),.string g,.string c] w fun e w'=>e=.returned (.bool (!zi S))/\∃j,zv 111 113 B w' p (zC S g c) j/\zk (foot p fs) w w'/\∀k,j.ownBlock=I k->fs.ownBlock=I k\/w.1.size<=k:=by
 cases d:zi S
 ·cases a:xv S.files g with
  |none=>rw[qh d a];exact JN B p S fs g c w N r b l t d a h
  |some i=>
   obtain⟨f,s,_,_⟩:=yw a
   rw[yJ d a s]
   exact(JO B p S fs g c w N r b l d i f a s h).mono fun e w' ⟨m,n,o⟩=>⟨m,fs,n,o,fun k q=> .inl q⟩
 ·rw[ko d]
  exact(Yr B p S fs g c w b.1 b.2.1 d h).mono fun e w' ⟨m,n,o⟩=>⟨m,fs,n,o,fun k q=> .inl q⟩
theorem zv.drew{T e:TypeId}{B:Nat}{w:World}{p:Nat}{S:DS}{fs:Value}(h:zv T e B w p S fs):zv T e B w.drew p S fs:=h.later ((Below.refl _ _).drew)
def xq(S:DS)(name:ByteArray):DS:=if zi S then zh S else zfG (zh S) name
theorem qo{S:DS}{b:ByteArray}{i:Nat}{f:FS}(d:zi S=false)(a:xv S.files b=I i)(c:S.files[i]?=I f):xq S b={zh S with files:=(zh S).files.set i {f with safe:=f.data.size}}:=by
 simp[xq,d,zfG,zn,a,c]
theorem jH{S:DS}{b:ByteArray}(c:zi S=false)(a:xv S.files b=J):xq S b=zh S:=by
 simp[xq,c,zfG,zn,a]
theorem v6{S:DS}{b:ByteArray}(a:zi S=true):xq S b=zh S:=by simp[xq,a]
theorem Jr(B:Nat)(p:Nat)(S:DS)(fs:Value)(l:ByteArray)(w:World)(N:Nat)(m:N<=1099511627776)(i:DOk S N)(k:zi S=true)(h:zv 111 113 B w p S fs):
  Calls prog 127 #[.pointer (I ⟨p,0,J⟩),.string l] w fun e w'=>e=.returned (.bool false)/\zv 111 113 B w' p (zh S) fs/\zk (foot p fs) w w':=by
 obtain⟨f,g,hn,b⟩:=i
 have a:=zd (qL B p S fs w ⟨f,g⟩ h)
 rw[k]at a
 have c:(zh S).files.length<=N:=by rw[zn];exact hn
 clear k b
 go_enter func127,ntmps127
 go_wp2_with(first
  |(go_at_call 197;refine(ud a).mono ?_;rintro e n ⟨rfl,j,d⟩)
  |(go_at_call 198;refine(qZ B p (zh S) _ l _ N m c j).mono ?_;rintro e o ⟨rfl,rfl⟩))
 go_ret
 exact⟨rfl,j,d⟩
theorem zfE(B:Nat)(p:Nat)(S:DS)(fs:Value)(f:ByteArray)(w:World)(N:Nat)(o:N<=1099511627776)(l:DOk S N)(n:zi S=false)(d:xv S.files f=J)(h:zv 111 113 B w p S fs):
  Calls prog 127 #[.pointer (I ⟨p,0,J⟩),.string f] w fun e w'=>e=.returned (.bool true)/\zv 111 113 B w' p (zh S) fs/\zk (foot p fs) w w':=by
 obtain⟨j,k,hn,b⟩:=l
 have a:=zd (qL B p S fs w ⟨j,k⟩ h)
 rw[n]at a
 have g:Hid (xY (zh S).files f= -1):=by show _=_;simp[xY,zn,d]
 have c:(zh S).files.length<=N:=by rw[zn];exact hn
 clear n d b
 go_enter func127,ntmps127
 go_wp2_with(first
  |(go_at_call 197;refine(ud a).mono ?_;rintro e q ⟨rfl,m,i⟩)
  |(go_at_call 198;refine(qZ B p (zh S) _ f _ N o c m).mono ?_;rintro e r ⟨rfl,rfl⟩;rw[ud g]))
 go_ret
 exact⟨rfl,m,i⟩
theorem zfF(B:Nat)(p:Nat)(S:DS)(fs:Value)(l:ByteArray)(w:World)(N:Nat)(x:N<=1099511627776)(r:DOk S N)(u:zi S=false)(i:Nat)(f:FS)(j:xv S.files l=I i)(t:S.files[i]?=I f)(h:zv 111 113 B w p S fs):
  Calls prog 127 #[.pointer (I ⟨p,0,J⟩),.string l] w fun e w'=>e=.returned (.bool true)/\zv 111 113 B w' p {zh S with files:=(zh S).files.set i {f with safe:=f.data.size}} fs/\zk (foot p fs) w w':=by
 obtain⟨o,q,hn,b⟩:=r
 have a:=zd (qL B p S fs w ⟨o,q⟩ h)
 rw[u]at a
 have C:i<S.files.length:=(List.getElem?_eq_some_iff.1 t).1
 have D:(i:Int)<S.files.length:=by omega
 have A:(0:Int)<=(i:Int):=by omega
 have m:Hid (xY (zh S).files l=i):=by show _=_;simp[xY,zn,j]
 have c:(zh S).files[i]?=I f:=by rw[zn];exact t
 have s:=zd c
 have d:(zh S).files.length<=N:=by rw[zn];exact hn
 have v:Hid (S.files.length=(zh S).files.length):=by show _=_;rw[zn]
 obtain⟨g,cap,rfl,-⟩:=h.files (by omega)
 clear u j c b
 go_enter func127,ntmps127
 go_wp2_with(first
  |(go_at_call 197;refine(ud a).mono ?_;rintro e G ⟨rfl,k,n⟩;have F:=k.c0;obtain⟨K,L,M,O⟩:=k.at (ud s))
  |(go_at_call 198;refine(qZ B p (zh S) _ l _ N x d k).mono ?_;rintro e H ⟨rfl,rfl⟩;rw[ud m]))
 go_region
 go_wp2
 go_ret
 obtain⟨y,E⟩:=k.setSafe (by decide) (by rw[ud v]) (ud s) f.data.size
 exact⟨rfl,y.drew,n.trans E.drew (fun _ _ z=>z)⟩
theorem Vl(B:Nat)(p:Nat)(S:DS)(fs:Value)(d:ByteArray)(w:World)(N:Nat)(g:N<=1099511627776)(b:DOk S N)(h:zv 111 113 B w p S fs):
  Calls prog 127 #[.pointer (I ⟨p,0,J⟩),.string d] w fun e w'=>e=.returned (.bool (!zi S))/\zv 111 113 B w' p (xq S d) fs/\zk (foot p fs) w w':=by
 cases c:zi S
 ·cases a:xv S.files d with
  |none=>rw[jH c a];exact zfE B p S fs d w N g b c a h
  |some i=>
   obtain⟨f,j,_,_⟩:=yw a
   rw[qo c a j]
   exact zfF B p S fs d w N g b c i f a j h
 ·rw[v6 c]
  exact Jr B p S fs d w N g b c h
end Go.Proofs.YtndhpgciopcncaaGreatDoor
