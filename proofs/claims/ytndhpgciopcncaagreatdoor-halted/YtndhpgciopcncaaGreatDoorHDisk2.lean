import Derived.Test.YtndhpgciopcncaaGreatDoorHDisk1
import Derived.Deep.WholeRow
open Option renaming some → J
set_option linter.unusedVariables false
set_option maxHeartbeats 1000000
open Go.Proofs.Tryz
namespace Go.Proofs.YtndhpgciopcncaaGreatDoor
open Go.RowKit
variable {dt nm:ByteArray} {S:DS} {f:FS} {l:List FS} {cap g i n:Nat}
theorem Tryz.infoFile:(prog.info? 113).map (fun i=>(i.zero,i.size,i.bytes))=J (J (.agg #[.string ByteArray.empty,.string ByteArray.empty,I 0]),3,40):=by kernel_rfl
section
variable {T e:TypeId} {B:Nat} {w:World} {p:Nat} {S:DS} {fs:Value}
theorem zx.at(h:zx T e B w p S (.slice (J (U g 0)) n cap))(c:S.files[i]?=J f):
  w.cell? (U g (i*3))=J (.string f.name)/\w.cell? (U g (i*3+1))=J (.string f.data)/\w.cell? (U g (i*3+2))=J (I f.safe)/\(∀j,w.frozen? (U g j)=false):=by
 obtain⟨l,b,hv,_,_,k,d⟩:=h.files (by have:=(List.getElem?_eq_some_iff.1 c).1;omega);injection hv with a m o;injection a with a;injection a with a;subst a;obtain⟨x,y,z⟩:=d i f c;exact⟨x,y,z,k⟩
theorem zx.setData(h:zx T e B w p S fs)(l:T≠e)(a:fs=.slice (J (U g 0)) S.files.length cap)(m:S.files[i]?=J f)(d:ByteArray):
  zx T e B (w.setCell (U g (i*3+1)) (.string d)) p {S with files:=S.files.set i {f with data:=d}} fs/\zi (foot p fs) w (w.setCell (U g (i*3+1)) (.string d)):=by
 have c:fs.ownBlock=J g:=by rw[a];rfl
 have b:p≠g:=fun e=>h.apart l (e▸c);have j:=h.row;rw[a]at j;have k:=j.stored (i*3+1) (.string d);rw[<-Xb _ _ _ d m]at k;refine⟨⟨?_,h.base,?_⟩,(zi.refl (foot p fs) w).setCell (fun _=> .inr c) _⟩
 ·rw[Below.heap_setCell _ _ _ _ b];exact h.head
 ·rw[a];simpa using k.1
theorem zx.setSafe(h:zx T e B w p S fs)(l:T≠e)(a:fs=.slice (J (U g 0)) S.files.length cap)(m:S.files[i]?=J f)(d:Nat):
  zx T e B (w.setCell (U g (i*3+2)) (I d)) p {S with files:=S.files.set i {f with safe:=d}} fs/\zi (foot p fs) w (w.setCell (U g (i*3+2)) (I d)):=by
 have c:fs.ownBlock=J g:=by rw[a];rfl
 have b:p≠g:=fun e=>h.apart l (e▸c);have j:=h.row;rw[a]at j;have k:=j.stored (i*3+2) (I d);rw[<-Xc _ _ _ d m]at k;refine⟨⟨?_,h.base,?_⟩,(zi.refl (foot p fs) w).setCell (fun _=> .inr c) _⟩
 ·rw[Below.heap_setCell _ _ _ _ b];exact h.head
 ·rw[a];simpa using k.1
theorem zx.setFiles{w0:World}(h:zx T e B w0 p S fs)(m:T≠e)(n:zi (foot p fs) w0 w)(o:w.1[p]?=w0.1[p]?){c:Value}(a:w.ownsRow B e 3 c l.length (zK l)):
  zx T e B (w.setCell (U p 0) c) p {S with files:=l} c/\zi (foot p fs) w0 (w.setCell (U p 0) c):=by
 have i:w.1[p]?=J (.cells #[fs,I S.left,.bool S.down] T (0,0)):=o.trans h.head;have d:zi (fun k=>k=p) w (w.setCell (U p 0) c):=(zi.refl (fun k=>k=p) w).setCell (fun _=>rfl) _;refine⟨⟨by rw[zqu i];rfl,h.base,zh a d (fun k f g=>?_)⟩,n.setCell (fun _=> .inl rfl) _⟩;subst g;obtain⟨j,b⟩:=zH a f;rw[i]at b;injection b with b;injection b with _ b;exact m b
end
def zD(S:DS)(name data:ByteArray):DS:=if zj S then zm S else Ju (zm S) name data
theorem zr(S:DS):(zm S).files=S.files:=by unfold zm;split<;>rfl
theorem qP(c:zj S=false)(a:xL S.files nm=J i)(b:S.files[i]?=J f):zD S nm dt={zm S with files:=(zm S).files.set i {f with data:=f.data++dt}}:=by
 simp[zD,c,Ju,zr,a,b]
theorem qD(b:zj S=false)(a:xL S.files nm=none):zD S nm dt={zm S with files:=(zm S).files++[⟨nm,dt,0⟩]}:=by
 simp[zD,b,Ju,zr,a]
theorem xS(a:zj S=true):zD S nm dt=zm S:=by simp[zD,a]
theorem Vj(B:Nat)(p:Nat)(S:DS)(fs:Value)(nm dt:ByteArray)(w:World)(c: -1<=S.left)(d:S.left<=9223372036854775807)(f:zj S=true)(h:zx 111 113 B w p S fs):
  Calls prog 126 #[(O p),.string nm,.string dt] w fun e w'=>e=.returned (.bool false)/\zx 111 113 B w' p (zm S) fs/\zi (foot p fs) w w':=by
 have a:=ze (yD B p S fs w ⟨c,d⟩ h);rw[f]at a;clear f;go_enter func126,ntmps126;go_wp2_with(go_at_call 197;refine(ud a).mono ?_;rintro e w1 ⟨rfl,g,b⟩);go_ret;exact⟨rfl,g,b⟩
theorem zcG(B:Nat)(p:Nat)(S:DS)(fs:Value)(nm dt:ByteArray)(w:World)(N:Nat)(y:N<=1099511627776)(s:DOk S N)(A:dt.size<=1099511627776)(v:zj S=false)(i:Nat)(f:FS)(j:xL S.files nm=J i)(n:S.files[i]?=J f)(h:zx 111 113 B w p S fs):
  Calls prog 126 #[(O p),.string nm,.string dt] w fun e w'=>e=.returned (.bool true)/\zx 111 113 B w' p {zm S with files:=(zm S).files.set i {f with data:=f.data++dt}} fs/\zi (foot p fs) w w':=by
 obtain⟨q,r,hn,a⟩:=s;have b:=ze (yD B p S fs w ⟨q,r⟩ h);rw[v]at b;have F:i<S.files.length:=(List.getElem?_eq_some_iff.1 n).1;have G:(i:Int)<S.files.length:=by omega
 have E:¬(i:Int)<0:=by omega
 have C:=(a f (List.mem_of_getElem? n)).2;have k:f.data.size+dt.size<=9223372036854775807:=by omega
 have u:=fun I=>run_string_add_sum (P:=prog) (w:=I) f.data dt k;have m:Hid (qN (zm S).files nm=i):=by show _=_;simp[qN,zr,j]
 have c:(zm S).files[i]?=J f:=by rw[zr];exact n
 have t:=ze c;have d:(zm S).files.length<=N:=by rw[zr];exact hn
 have x:Hid (S.files.length=(zm S).files.length):=by show _=_;rw[zr]
 obtain⟨g,cap,rfl,-⟩:=h.files (by omega);clear v j c a;go_enter func126,ntmps126;go_wp2_with(first
  |(go_at_call 197;refine(ud b).mono ?_;rintro e w1 ⟨rfl,l,o⟩;have K:=l.c0;obtain⟨L,M,Q,R⟩:=l.at (ud t))
  |(go_at_call 198;refine(yW B p (zm S) _ nm _ N y d l).mono ?_;rintro e w2 ⟨rfl,rfl⟩;rw[ud m]))
 go_ret;obtain⟨z,H⟩:=l.setData (by decide) (by rw[ud x]) (ud t) (f.data++dt);exact⟨rfl,z,o.trans H (fun _ _ D=>D)⟩
theorem Vp(d:ByteArray):(⟨#[]⟩++d:ByteArray)=d:=by
 cases d with
 |mk data=>apply ByteArray.ext;simp
theorem QI{w:World}{B:Nat}{e:TypeId}{v:Value}(hn:n=l.length)(h:w.ownsRow B e 3 v (n+1) (zK l++[.string f.name,.string f.data,I f.safe])):w.ownsRow B e 3 v (l++[f]).length (zK (l++[f])):=by
 subst hn;rw[Z7];simpa[zK]using h
theorem zcF(B:Nat)(p:Nat)(S:DS)(fs:Value)(nm dt:ByteArray)(w:World)(N:Nat)(Y:N<=1099511627776)(K:DOk S N)(Z:dt.size<=1099511627776)(hB:B<=w.1.size)(V:zj S=false)(y:xL S.files nm=none)(h:zx 111 113 B w p S fs):
  Calls prog 126 #[(O p),.string nm,.string dt] w fun e w'=>e=.returned (.bool true)/\∃s,zx 111 113 B w' p {zm S with files:=(zm S).files++[⟨nm,dt,0⟩]} s/\zi (foot p fs) w w'/\∀k,s.ownBlock=J k->fs.ownBlock=J k\/w.1.size<=k:=by
 obtain⟨G,H,hn,t⟩:=K;have r:=ze (yD B p S fs w ⟨G,H⟩ h);rw[V]at r;have C:Hid (qN (zm S).files nm= -1):=by show _=_;simp[qN,zr,y]
 have x:(zm S).files.length<=N:=by rw[zr];exact hn
 have o:Hid ((zm S).files.length=S.files.length):=by show _=_;rw[zr]
 obtain⟨a,j,rfl⟩:=YI h.row;have Q:=fun wx=>run_string_add_sum (P:=prog) (w:=wx) ⟨#[]⟩ dt (by show 0+dt.size<=_;omega);clear V y t h;go_enter func126,ntmps126;go_wp2_with(first
  |(at_builtin
    refine xQ rfl _ _ 109 rfl B 113 _ 3 40 underlying109 Tryz.infoFile rfl (by decide) (.slice a S.files.length j) S.files.length (zK (zm S).files) rfl ?l9 (U w2.1.size 0) 1 1 [.string nm,.string ⟨#[]⟩,I 0] rfl rfl ?hnews ?d (by decide) ?h63 ?hbytes ?hbase ?_
    case l9=>(have:=d.row;rw[ud o]at this;exact this.alloc _)
    case hnews=>exact World.news_of_block (heap_alloc_last _ _)
    case d=>(intro u W;simp at W;rcases W with rfl|rfl|rfl<;>rfl)
    case h63=>(simp only[maxLen];omega)
    case hbytes=>omega
    case hbase=>(have:=m.size;simp;omega)
    intro g cap A l T c b a0
    have L:=d.lt
    have n:A.1[p]?=w2.1[p]?:=(c.block p (by simp;omega) (fun e=>d.apart (by decide) e.symm)).trans (Below.heap_alloc _ _ _ L)
    have F:zi (foot p (.slice a S.files.length j)) w2 A:=((zi.refl _ _).alloc _).grown c (fun k E _=> .inr E)
    have z:=QI (f:=⟨nm,⟨#[]⟩,0⟩) (ud o).symm l
    obtain⟨D,X⟩:=d.setFiles (by decide) F n z
    have e0:=D.c0
    obtain⟨e1,e2,e3,e4⟩:=D.at (i:=S.files.length) (f:=⟨nm,⟨#[]⟩,0⟩) (by simp[ud o])
    have d0:A.cell? (U p 0)=_:=(World.cell?_of_block (a:=(U p 0)) n).trans d.c0
    have d1:A.frozen? (U p 0)=false:=(World.frozen?_of_block (a:=(U p 0)) n).trans (d.free 0))
  |(go_at_call 197;refine(ud r).mono ?_;rintro e w1 ⟨rfl,d,m⟩;have c0:=d.c0)
  |(go_at_call 198;refine(yW B p (zm S) _ nm _ N Y x d).mono ?_;rintro e w2 ⟨rfl,rfl⟩;rw[ud C]))
 go_ret;obtain⟨M,E⟩:=D.setData (by decide) (g:=g) (cap:=cap) (by simp[ud o]) (i:=S.files.length) (f:=⟨nm,⟨#[]⟩,0⟩) (by simp[ud o]) (⟨#[]⟩++dt);refine⟨rfl,.slice (J (U g 0)) (S.files.length+1) cap,?_,m.trans (X.trans E (fun k R q=>?_)) (fun _ _ q=>q),fun k v=>?_⟩
 ·rw[Vp]at M ⊢;have e:((zm S).files++[(⟨nm,⟨#[]⟩,0⟩:FS)]).set S.files.length ⟨nm,dt,0⟩=(zm S).files++[⟨nm,dt,0⟩]:=by
   rw[<-ud o];simp
  rw[<-e];exact M
 ·rcases q with rfl|q
  ·exact .inl rfl
  ·simp[Value.ownBlock]at q;subst q;rcases b with b|b
   ·exact .inr b
   ·simp at b;omega
 ·simp[Value.ownBlock]at v;subst v;rcases b with b|b
  ·exact .inl b
  ·right;have:=m.size;simp at b;omega
theorem Qq(B:Nat)(p:Nat)(S:DS)(fs:Value)(nm dt:ByteArray)(w:World)(N:Nat)(o:N<=1099511627776)(b:DOk S N)(g:dt.size<=1099511627776)(r:B<=w.1.size)(h:zx 111 113 B w p S fs):
  Calls prog 126 #[(O p),.string nm,.string dt] w fun e w'=>e=.returned (.bool (!zj S))/\∃d,zx 111 113 B w' p (zD S nm dt) d/\zi (foot p fs) w w'/\∀k,d.ownBlock=J k->fs.ownBlock=J k\/w.1.size<=k:=by
 cases c:zj S
 ·cases a:xL S.files nm with
  |none=>rw[qD c a];exact zcF B p S fs nm dt w N o b g r c a h
  |some i=>
   obtain⟨f,q,_,_⟩:=ku a;rw[qP c a q];exact(zcG B p S fs nm dt w N o b g c i f a q h).mono fun e w' ⟨j,l,m⟩=>⟨j,fs,l,m,fun k n=> .inl n⟩
 ·rw[xS c];exact(Vj B p S fs nm dt w b.1 b.2.1 c h).mono fun e w' ⟨j,l,m⟩=>⟨j,fs,l,m,fun k n=> .inl n⟩
end Go.Proofs.YtndhpgciopcncaaGreatDoor
