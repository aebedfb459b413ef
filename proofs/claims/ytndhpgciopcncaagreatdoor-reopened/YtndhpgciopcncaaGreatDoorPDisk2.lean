import Derived.Test.YtndhpgciopcncaaGreatDoorPDisk1
import Derived.Deep.WholeRow
open Option renaming some → J
set_option linter.unusedVariables false
set_option maxHeartbeats 1000000
open Go.Proofs.Tryz
namespace Go.Proofs.YtndhpgciopcncaaGreatDoor
open Go.RowKit
theorem Tryz.infoFile:(prog.info? 113).map (fun i=>(i.zero,i.size,i.bytes))=J (J (.agg #[.string ByteArray.empty,.string ByteArray.empty,I 0]),3,40):=by kernel_rfl
section
variable {T e:TypeId} {B:Nat} {w:World} {p:Nat} {S:DS} {fs:Value}
theorem zw.at{g n cap:Nat}(h:zw T e B w p S (.slice (J (U g 0)) n cap)){i:Nat}{f:FS}(c:S.files[i]?=J f):
  w.cell? (U g (i*3))=J (.string f.name)/\w.cell? (U g (i*3+1))=J (.string f.data)/\w.cell? (U g (i*3+2))=J (I f.safe)/\(∀j,w.frozen? (U g j)=false):=by
 obtain⟨l,b,hv,_,_,k,d⟩:=h.files (by have:=(List.getElem?_eq_some_iff.1 c).1;omega)
 injection hv with a m o
 injection a with a
 injection a with a
 subst a
 obtain⟨x,y,z⟩:=d i f c
 exact⟨x,y,z,k⟩
theorem zw.setData(h:zw T e B w p S fs)(l:T≠e){g cap:Nat}(a:fs=.slice (J (U g 0)) S.files.length cap){i:Nat}{f:FS}(m:S.files[i]?=J f)(d:ByteArray):
  zw T e B (w.setCell (U g (i*3+1)) (.string d)) p {S with files:=S.files.set i {f with data:=d}} fs/\zh (foot p fs) w (w.setCell (U g (i*3+1)) (.string d)):=by
 have c:fs.ownBlock=J g:=by rw[a];rfl
 have b:p≠g:=fun e=>h.apart l (e▸c)
 have j:=h.row
 rw[a]at j
 have k:=j.stored (i*3+1) (.string d)
 rw[<-ZT _ _ _ d m]at k
 refine⟨⟨?_,h.base,?_⟩,(zh.refl (foot p fs) w).setCell (fun _=> .inr c) _⟩
 ·rw[Below.heap_setCell _ _ _ _ b];exact h.head
 ·rw[a];simpa using k.1
theorem zw.setSafe(h:zw T e B w p S fs)(l:T≠e){g cap:Nat}(a:fs=.slice (J (U g 0)) S.files.length cap){i:Nat}{f:FS}(m:S.files[i]?=J f)(d:Nat):
  zw T e B (w.setCell (U g (i*3+2)) (I d)) p {S with files:=S.files.set i {f with safe:=d}} fs/\zh (foot p fs) w (w.setCell (U g (i*3+2)) (I d)):=by
 have c:fs.ownBlock=J g:=by rw[a];rfl
 have b:p≠g:=fun e=>h.apart l (e▸c)
 have j:=h.row
 rw[a]at j
 have k:=j.stored (i*3+2) (I d)
 rw[<-ZU _ _ _ d m]at k
 refine⟨⟨?_,h.base,?_⟩,(zh.refl (foot p fs) w).setCell (fun _=> .inr c) _⟩
 ·rw[Below.heap_setCell _ _ _ _ b];exact h.head
 ·rw[a];simpa using k.1
theorem zw.setFiles{d:World}(h:zw T e B d p S fs)(n:T≠e)(o:zh (foot p fs) d w)(q:w.1[p]?=d.1[p]?){c:Value}{l:List FS}(a:w.ownsRow B e 3 c l.length (zL l)):
  zw T e B (w.setCell (U p 0) c) p {S with files:=l} c/\zh (foot p fs) d (w.setCell (U p 0) c):=by
 have j:w.1[p]?=J (.cells #[fs,I S.left,.bool S.down] T (0,0)):=q.trans h.head
 have f:zh (fun k=>k=p) w (w.setCell (U p 0) c):=(zh.refl (fun k=>k=p) w).setCell (fun _=>rfl) _
 refine⟨⟨by rw[zpM j];rfl,h.base,zi a f (fun k g i=>?_)⟩,o.setCell (fun _=> .inl rfl) _⟩
 subst i
 obtain⟨m,b⟩:=zH a g
 rw[j]at b
 injection b with b;injection b with _ b;exact n b
end
def zE(S:DS)(name data:ByteArray):DS:=if zo S then zm S else J4 (zm S) name data
theorem zq(S:DS):(zm S).files=S.files:=by unfold zm;split<;>rfl
theorem yp{S:DS}{c b:ByteArray}{i:Nat}{f:FS}(e:zo S=false)(a:xN S.files c=J i)(d:S.files[i]?=J f):zE S c b={zm S with files:=(zm S).files.set i {f with data:=f.data++b}}:=by
 simp[zE,e,J4,zq,a,d]
theorem qG{S:DS}{b c:ByteArray}(d:zo S=false)(a:xN S.files b=none):zE S b c={zm S with files:=(zm S).files++[⟨b,c,0⟩]}:=by
 simp[zE,d,J4,zq,a]
theorem vd{S:DS}{c a:ByteArray}(b:zo S=true):zE S c a=zm S:=by simp[zE,b]
theorem KM(B:Nat)(p:Nat)(S:DS)(fs:Value)(j g:ByteArray)(w:World)(c: -1<=S.left)(d:S.left<=9223372036854775807)(f:zo S=true)(h:zw 111 113 B w p S fs):
  Calls prog 126 #[(O p),.string j,.string g] w fun e w'=>e=.returned (.bool false)/\zw 111 113 B w' p (zm S) fs/\zh (foot p fs) w w':=by
 have a:=ze (yr B p S fs w ⟨c,d⟩ h)
 rw[f]at a
 clear f
 go_enter func126,ntmps126
 go_wp2_with(go_at_call 197;refine(ud a).mono ?_;rintro e k ⟨rfl,i,b⟩)
 go_ret
 exact⟨rfl,i,b⟩
theorem zcb(B:Nat)(p:Nat)(S:DS)(fs:Value)(n b:ByteArray)(w:World)(N:Nat)(A:N<=1099511627776)(u:DOk S N)(D:b.size<=1099511627776)(y:zo S=false)(i:Nat)(f:FS)(k:xN S.files n=J i)(q:S.files[i]?=J f)(h:zw 111 113 B w p S fs):
  Calls prog 126 #[(O p),.string n,.string b] w fun e w'=>e=.returned (.bool true)/\zw 111 113 B w' p {zm S with files:=(zm S).files.set i {f with data:=f.data++b}} fs/\zh (foot p fs) w w':=by
 obtain⟨s,t,hn,a⟩:=u
 have c:=ze (yr B p S fs w ⟨s,t⟩ h)
 rw[y]at c
 have H:i<S.files.length:=(List.getElem?_eq_some_iff.1 q).1
 have I:(i:Int)<S.files.length:=by omega
 have G:¬(i:Int)<0:=by omega
 have E:=(a f (List.mem_of_getElem? q)).2
 have l:f.data.size+b.size<=9223372036854775807:=by omega
 have x:=fun L=>run_string_add_sum (P:=prog) (w:=L) f.data b l
 have o:Hid (qC (zm S).files n=i):=by show _=_;simp[qC,zq,k]
 have d:(zm S).files[i]?=J f:=by rw[zq];exact q
 have v:=ze d
 have j:(zm S).files.length<=N:=by rw[zq];exact hn
 have z:Hid (S.files.length=(zm S).files.length):=by show _=_;rw[zq]
 obtain⟨g,cap,rfl,-⟩:=h.files (by omega)
 clear y k d a
 go_enter func126,ntmps126
 go_wp2_with(first
  |(go_at_call 197;refine(ud c).mono ?_;rintro e Q ⟨rfl,m,r⟩;have M:=m.c0;obtain⟨T,U,V,W⟩:=m.at (ud v))
  |(go_at_call 198;refine(yN B p (zm S) _ n _ N A j m).mono ?_;rintro e R ⟨rfl,rfl⟩;rw[ud o]))
 go_ret
 obtain⟨C,K⟩:=m.setData (by decide) (by rw[ud z]) (ud v) (f.data++b)
 exact⟨rfl,C,r.trans K (fun _ _ F=>F)⟩
theorem KQ(d:ByteArray):(⟨#[]⟩++d:ByteArray)=d:=by
 cases d with
 |mk data=>apply ByteArray.ext;simp
theorem QA{w:World}{B:Nat}{e:TypeId}{v:Value}{l:List FS}{f:FS}{n:Nat}(hn:n=l.length)(h:w.ownsRow B e 3 v (n+1) (zL l++[.string f.name,.string f.data,I f.safe])):w.ownsRow B e 3 v (l++[f]).length (zL (l++[f])):=by
 subst hn
 rw[jP];simpa[zL]using h
theorem zca(B:Nat)(p:Nat)(S:DS)(fs:Value)(c m:ByteArray)(w:World)(N:Nat)(hN:N<=1099511627776)(M:DOk S N)(a0:m.size<=1099511627776)(hB:B<=w.1.size)(Y:zo S=false)(A:xN S.files c=none)(h:zw 111 113 B w p S fs):
  Calls prog 126 #[(O p),.string c,.string m] w fun e w'=>e=.returned (.bool true)/\∃v,zw 111 113 B w' p {zm S with files:=(zm S).files++[⟨c,m,0⟩]} v/\zh (foot p fs) w w'/\∀k,v.ownBlock=J k->fs.ownBlock=J k\/w.1.size<=k:=by
 obtain⟨K,L,hn,x⟩:=M
 have t:=ze (yr B p S fs w ⟨K,L⟩ h)
 rw[Y]at t
 have E:Hid (qC (zm S).files c= -1):=by show _=_;simp[qC,zq,A]
 have z:(zm S).files.length<=N:=by rw[zq];exact hn
 have r:Hid ((zm S).files.length=S.files.length):=by show _=_;rw[zq]
 obtain⟨a,l,rfl⟩:=Yy h.row
 have V:=fun wx=>run_string_add_sum (P:=prog) (w:=wx) ⟨#[]⟩ m (by show 0+m.size<=_;omega)
 clear Y A x h
 go_enter func126,ntmps126
 go_wp2_with(first
  |(at_builtin
    refine xM rfl _ _ 109 rfl B 113 _ 3 40 underlying109 Tryz.infoFile rfl (by decide) (.slice a S.files.length l) S.files.length (zL (zm S).files) rfl ?n (U R.1.size 0) 1 1 [.string c,.string ⟨#[]⟩,I 0] rfl rfl ?hnews ?j (by decide) ?h63 ?hbytes ?hbase ?_
    case n=>(have:=j.row;rw[ud r]at this;exact this.alloc _)
    case hnews=>exact World.news_of_block (heap_alloc_last _ _)
    case j=>(intro u Z;simp at Z;rcases Z with rfl|rfl|rfl<;>rfl)
    case h63=>(simp only[maxLen];omega)
    case hbytes=>omega
    case hbase=>(have:=o.size;simp;omega)
    intro g cap D n X d b a1
    have Q:=j.lt
    have q:D.1[p]?=R.1[p]?:=(d.block p (by simp;omega) (fun e=>j.apart (by decide) e.symm)).trans (Below.heap_alloc _ _ _ Q)
    have H:zh (foot p (.slice a S.files.length l)) R D:=((zh.refl _ _).alloc _).grown d (fun k G _=> .inr G)
    have C:=QA (f:=⟨c,⟨#[]⟩,0⟩) (ud r).symm n
    obtain⟨F,hK⟩:=j.setFiles (by decide) H q C
    have e0:=F.c0
    obtain⟨e1,e2,e3,e4⟩:=F.at (i:=S.files.length) (f:=⟨c,⟨#[]⟩,0⟩) (by simp[ud r])
    have d0:D.cell? (U p 0)=_:=(World.cell?_of_block (a:=(U p 0)) q).trans j.c0
    have d1:D.frozen? (U p 0)=false:=(World.frozen?_of_block (a:=(U p 0)) q).trans (j.free 0))
  |(go_at_call 197;refine(ud t).mono ?_;rintro e w1 ⟨rfl,j,o⟩;have c0:=j.c0)
  |(go_at_call 198;refine(yN B p (zm S) _ c _ N hN z j).mono ?_;rintro e R ⟨rfl,rfl⟩;rw[ud E]))
 go_ret
 obtain⟨T,G⟩:=F.setData (by decide) (g:=g) (cap:=cap) (by simp[ud r]) (i:=S.files.length) (f:=⟨c,⟨#[]⟩,0⟩) (by simp[ud r]) (⟨#[]⟩++m)
 refine⟨rfl,.slice (J (U g 0)) (S.files.length+1) cap,?_,o.trans (hK.trans G (fun k W s=>?_)) (fun _ _ s=>s),fun k y=>?_⟩
 ·rw[KQ]at T ⊢
  have e:((zm S).files++[(⟨c,⟨#[]⟩,0⟩:FS)]).set S.files.length ⟨c,m,0⟩=(zm S).files++[⟨c,m,0⟩]:=by
   rw[<-ud r];simp
  rw[<-e];exact T
 ·rcases s with rfl|s
  ·exact .inl rfl
  ·simp[Value.ownBlock]at s
   subst s
   rcases b with b|b
   ·exact .inr b
   ·simp at b;omega
 ·simp[Value.ownBlock]at y
  subst y
  rcases b with b|b
  ·exact .inl b
  ·right;have:=o.size;simp at b;omega
theorem Qf(B:Nat)(p:Nat)(S:DS)(fs:Value)(g c:ByteArray)(w:World)(N:Nat)(r:N<=1099511627776)(b:DOk S N)(l:c.size<=1099511627776)(t:B<=w.1.size)(h:zw 111 113 B w p S fs):
  Calls prog 126 #[(O p),.string g,.string c] w fun e w'=>e=.returned (.bool (!zo S))/\∃j,zw 111 113 B w' p (zE S g c) j/\zh (foot p fs) w w'/\∀k,j.ownBlock=J k->fs.ownBlock=J k\/w.1.size<=k:=by
 cases d:zo S
 ·cases a:xN S.files g with
  |none=>rw[qG d a];exact zca B p S fs g c w N r b l t d a h
  |some i=>
   obtain⟨f,s,_,_⟩:=kh a
   rw[yp d a s]
   exact(zcb B p S fs g c w N r b l d i f a s h).mono fun e w' ⟨m,n,o⟩=>⟨m,fs,n,o,fun k q=> .inl q⟩
 ·rw[vd d]
  exact(KM B p S fs g c w b.1 b.2.1 d h).mono fun e w' ⟨m,n,o⟩=>⟨m,fs,n,o,fun k q=> .inl q⟩
end Go.Proofs.YtndhpgciopcncaaGreatDoor
