import Derived.Test.YtndhpgciopcncaaGreatDoorYDisk2
open Go.Value (int)
open Go.IntKind (i64)
set_option linter.unusedVariables false
set_option maxHeartbeats 1000000
open Go.Proofs.Tryz
namespace Go.Proofs.YtndhpgciopcncaaGreatDoor
open Go.RowKit
theorem X6{w:World}{base base' size n:Nat}{e:TypeId}{v:Value}{xs:List Value}(h:w.ownsRow base e size v n xs)(f:base'<=base):w.ownsRow base' e size v n xs:=by
 refine⟨h.1,?_⟩
 rcases h.2 with c|⟨g,cap,a,b,d,r⟩
 ·exact .inl c
 ·exact .inr ⟨g,cap,a,b,by omega,r⟩
theorem zcP{w:World}{base size n:Nat}{e:TypeId}{v:Value}{xs:List Value}(h:w.ownsRow base e size v n xs):∃a cap,v=.slice a n cap:=by
 rcases h.2 with⟨b,c⟩|⟨g,cap,_,b,_⟩
 ·exact⟨none,0,by rw[b,c]⟩
 ·exact⟨_,cap,b⟩
theorem KS(w:World)(base:Nat)(e:TypeId)(size:Nat):w.ownsRow base e size (.slice none 0 0) 0 []:=World.ownsRow_nil w base e size
theorem XJ{l:List FS}{k:Nat}{f:FS}(h:l[k]?=some f):l.take (k+1)=l.take k++[f]:=by
 rw[List.take_add_one,h];rfl
def yr(p:FS->Bool)(l:List FS)(k:Nat):List FS:=(l.take k).filter p
theorem QC(p:FS->Bool)(l:List FS):yr p l 0=[]:=by simp[yr]
theorem YQ{p:FS->Bool}{l:List FS}{k:Nat}{f:FS}(h:l[k]?=some f)(a:p f=true):yr p l (k+1)=yr p l k++[f]:=by
 simp[yr,XJ h,List.filter_append,a]
theorem QB{p:FS->Bool}{l:List FS}{k:Nat}{f:FS}(h:l[k]?=some f)(a:p f=false):yr p l (k+1)=yr p l k:=by
 simp[yr,XJ h,List.filter_append,a]
theorem Zz(p:FS->Bool)(l:List FS)(k:Nat):(yr p l k).length<=k:=by
 have:=List.length_filter_le p (l.take k);have:=List.length_take_le k l;unfold yr;omega
theorem YP(p:FS->Bool)(l:List FS):yr p l l.length=l.filter p:=by simp[yr]
theorem QW{w:World}{ops:Array Oper}{rest:List Oper}{o:Oper}{a:Act}{Q:Exit->Act->World->Prop}(e:o.guard=none)(s x:Operand)
  (q:o.op=.call {callee:=.builtin .append,args:=#[s,x],argTypes:=#[109,109]}) (base:Nat) (v:Value) (l:List FS) (f:FS) (r:a.eval s=v) (b:w.ownsRow base 113 3 v l.length (zK l))
  (c:Nat) (t:a.eval x=.slice (some ⟨c,0,none⟩) 1 1) (d:w.1[c]?=some (.cells #[.string f.name,.string f.data,int i64 f.safe] 113 (0,0))) (y:l.length<=1099511627776) (hbase:base<=w.1.size)
  (h:∀g cap w',w'.ownsRow base 113 3 (.slice (some ⟨g,0,none⟩) (l.length+1) cap) (l++[f]).length (zK (l++[f]))->w'.ownsRow base 113 3 v l.length (zK l)->w.grownBy w' v.ownBlock->(v.ownBlock=some g\/g=w.1.size)->g<w'.1.size->wpList prog ops Q rest (a.put o.dst (.slice (some ⟨g,0,none⟩) (l.length+1) cap)) w'):wpList prog ops Q (o::rest) a w:=
 zJ e s x 109 q base 113 _ 3 40 underlying109 Tryz.infoFile rfl (by decide) v l.length (zK l) r b ⟨c,0,none⟩ 1 1 [.string f.name,.string f.data,int i64 f.safe] t rfl
  (World.news_of_block (cs:=#[.string f.name,.string f.data,int i64 f.safe]) d) (by intro u i;simp at i;rcases i with rfl|rfl|rfl<;>rfl) (by decide) (by simp only[maxLen];omega) (by omega) hbase
  fun g cap w' j k m n p=>h g cap w' (Ke rfl j) k m n p
theorem heap_second(w:World)(o a:Obj):((w.alloc o).alloc a).1[w.1.size+1]?=some a:=by
 have h:=heap_alloc_last (w.alloc o) a
 rwa[show(w.alloc o).1.size=w.1.size+1 by simp]at h
theorem vn(w:World)(o:Obj):(w.alloc o).1.size=w.1.size+1:=by simp
theorem Zc(w:World)(o a:Obj):((w.alloc o).alloc a).1.size=w.1.size+2:=by simp
def qe(S:DS)(name:ByteArray):DS:=if zi S then zh S else zax (zh S) name
theorem zfc(B:Nat)(p:Nat)(S:DS)(fs:Value)(b:ByteArray)(w:World)(N:Nat)(hN:N<=1099511627776)(L:DOk S N)(hB:B<=w.1.size)(hs:zi S=false)(h:zv 111 113 B w p S fs):
  Calls prog 206 #[.pointer (some ⟨p,0,none⟩),.string b] w fun e w'=>e=.returned (.bool true)/\∃s,zv 111 113 B w' p (zax (zh S) b) s/\zk (foot p fs) w w'/\∀k,s.ownBlock=some k->fs.ownBlock=some k\/w.1.size<=k:=by
 obtain⟨I,J,hn,t⟩:=L
 have q:=zd (qL B p S fs w ⟨I,J⟩ h)
 rw[hs]at q
 have X:(zh S).files.length<=N:=by rw[zn];exact hn
 have D:Hid ((zh S).files.length=S.files.length):=by show _=_;rw[zn]
 obtain⟨a,r,rfl⟩:=Vg h.row
 clear hs t h
 go_enter func206,ntmps206
 go_wp2_with(go_at_call 197;refine(ud q).mono ?_;rintro e j ⟨rfl,x,n⟩;have c0:=x.c0)
 go_loopw [5,7,16] (fun v _ y wr=>∃(k:Nat),k<=S.files.length/\y=int i64 k/\wr.ownsRow j.1.size 113 3 v (yr (fun f=>!eqS f.name b) (zh S).files k).length (zK (yr (fun f=>!eqS f.name b) (zh S).files k))/\Below j.1.size j wr) (fun _ _ y _=>S.files.length-(intOf y).toNat)
 case atStart=>exact⟨0,Nat.zero_le _,rfl,by rw[QC];exact KS _ _ _ _,Below.refl _ _⟩
 case round=>
  obtain⟨k,A,rfl,hv,d⟩:=hrel
  have a1:=Zz (fun f=>!eqS f.name b) (zh S).files k
  have z:=x.later d
  by_cases K:k<S.files.length
  ·obtain⟨f,G⟩:=Qs (l:=(zh S).files) (k:=k) (by rw[ud D];exact K)
   obtain⟨g,U,M,-⟩:=z.files (by rw[ud D];omega)
   injection M with O P Q
   subst O
   obtain⟨x0,x1,x2,xf⟩:=z.at G
   have T:=zd G
   have a2:(k:Int)<S.files.length:=by omega
   clear G P Q
   cases o:eqS f.name b
   ·have F:(f.name.toList==b.toList)=false:=o
    have C:=zd (YQ (p:=fun f=>!eqS f.name b) (ud T) (by simp[o]))
    clear o
    have c:=d.size
    go_wp2_with(first
     |(at_builtin;refine QW rfl _ _ rfl j.1.size _ (yr (fun f=>!eqS f.name b) (zh S).files k) f rfl ((hv.alloc _).alloc _) (wr.1.size+1) rfl (heap_second _ _ _) ?hll ?hbb ?_;(case hll=>omega);(case hbb=>(rw[Zc];omega));intro g2 V w3 u Z m a0 Y)
     |fail)
    have E:Below j.1.size j w3:=((d.alloc c _).alloc (by simp;omega) _).grown m (by simp;omega) (fun k A=>(hv.lt k A).1)
    exact⟨⟨k+1,by omega,by go_num,by rw[ud C];exact u,E⟩,by simp[intOf];omega⟩
   ·have F:(f.name.toList==b.toList)=true:=o
    have C:=zd (QB (p:=fun f=>!eqS f.name b) (ud T) (by simp[o]))
    have c:=d.size
    clear o
    go_wp2
    go_roundw
    case rel=>exact⟨k+1,by omega,by go_num,by rw[ud C];exact hv.alloc _,d.alloc c _⟩
    case measure=>simp[intOf];omega
  ·have e:k=(zh S).files.length:=by rw[ud D];omega
   have c:=d.size
   have H:zk (foot p (.slice a S.files.length r)) j wr:=zk.of_below d
   have i:=X6 hv (show B<=j.1.size by have:=n.size;omega)
   rw[e,YP]at i
   obtain⟨a5,W,rfl⟩:=zcP hv
   obtain⟨hD,hK⟩:=x.setFiles (by decide) H (d.block p x.lt) i
   have R:=hv.lt
   have d0:=z.c0
   have d1:=z.free 0
   clear e
   go_wp2
   go_ret
   exact⟨rfl,_,hD,n.trans hK (fun _ _ hh=>hh),fun k A=> .inr (by have:=(R k A).1;have:=n.size;omega)⟩
theorem Yw(B:Nat)(p:Nat)(S:DS)(fs:Value)(k:ByteArray)(w:World)(N:Nat)(g:DOk S N)(i:zi S=true)(h:zv 111 113 B w p S fs):
  Calls prog 206 #[.pointer (some ⟨p,0,none⟩),.string k] w fun e w'=>e=.returned (.bool false)/\zv 111 113 B w' p (zh S) fs/\zk (foot p fs) w w':=by
 obtain⟨d,f,hn,b⟩:=g
 have a:=zd (qL B p S fs w ⟨d,f⟩ h)
 rw[i]at a
 clear i b
 go_enter func206,ntmps206
 go_wp2_with(go_at_call 197;refine(ud a).mono ?_;rintro e l ⟨rfl,j,c⟩)
 go_ret
 exact⟨rfl,j,c⟩
theorem zdd(B:Nat)(p:Nat)(S:DS)(fs:Value)(a:ByteArray)(w:World)(N:Nat)(l:N<=1099511627776)(c:DOk S N)(j:B<=w.1.size)(h:zv 111 113 B w p S fs):
  Calls prog 206 #[.pointer (some ⟨p,0,none⟩),.string a] w fun e w'=>e=.returned (.bool (!zi S))/\∃b,zv 111 113 B w' p (qe S a) b/\zk (foot p fs) w w'/\∀k,b.ownBlock=some k->fs.ownBlock=some k\/w.1.size<=k:=by
 cases d:zi S
 ·have e:qe S a=zax (zh S) a:=by simp[qe,d]
  rw[e]
  exact zfc B p S fs a w N l c j d h
 ·have e:qe S a=zh S:=by simp[qe,d]
  rw[e]
  exact(Yw B p S fs a w N c d h).mono fun e w' ⟨f,g,i⟩=>⟨f,fs,g,i,fun k m=> .inl m⟩
end Go.Proofs.YtndhpgciopcncaaGreatDoor
