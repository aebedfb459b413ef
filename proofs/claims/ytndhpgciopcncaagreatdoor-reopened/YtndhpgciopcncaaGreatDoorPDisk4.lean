import Derived.Test.YtndhpgciopcncaaGreatDoorPDisk3
set_option linter.unusedVariables false
set_option maxHeartbeats 1000000
open Go.Proofs.Tryz
namespace Go.Proofs.YtndhpgciopcncaaGreatDoor
open Go.RowKit
theorem Zs{w:World}{base a size n:Nat}{e:TypeId}{v:Value}{xs:List Value}(h:w.ownsRow base e size v n xs)(i:a<=base):w.ownsRow a e size v n xs:=by
 refine⟨h.1,?_⟩
 rcases h.2 with d|⟨g,cap,b,c,f,r⟩
 ·exact .inl d
 ·exact .inr ⟨g,cap,b,c,by omega,r⟩
theorem VM{w:World}{base size n:Nat}{e:TypeId}{v:Value}{xs:List Value}(h:w.ownsRow base e size v n xs):∃a cap,v=.slice a n cap:=by
 rcases h.2 with⟨b,c⟩|⟨g,cap,_,b,_⟩
 ·exact⟨none,0,by rw[b,c]⟩
 ·exact⟨_,cap,b⟩
theorem JE(w:World)(base:Nat)(e:TypeId)(size:Nat):w.ownsRow base e size (.slice none 0 0) 0 []:=World.ownsRow_nil w base e size
theorem Zl{l:List FS}{k:Nat}{f:FS}(h:l[k]?=some f):l.take (k+1)=l.take k++[f]:=by
 rw[List.take_add_one,h];rfl
def yX(p:FS->Bool)(l:List FS)(k:Nat):List FS:=(l.take k).filter p
theorem K5(p:FS->Bool)(l:List FS):yX p l 0=[]:=by simp[yX]
theorem Vy{p:FS->Bool}{l:List FS}{k:Nat}{f:FS}(h:l[k]?=some f)(a:p f=true):yX p l (k+1)=yX p l k++[f]:=by
 simp[yX,Zl h,List.filter_append,a]
theorem YY{p:FS->Bool}{l:List FS}{k:Nat}{f:FS}(h:l[k]?=some f)(a:p f=false):yX p l (k+1)=yX p l k:=by
 simp[yX,Zl h,List.filter_append,a]
theorem XT(p:FS->Bool)(l:List FS)(k:Nat):(yX p l k).length<=k:=by
 have:=List.length_filter_le p (l.take k);have:=List.length_take_le k l;unfold yX;omega
theorem Vx(p:FS->Bool)(l:List FS):yX p l l.length=l.filter p:=by simp[yX]
theorem Kn{w:World}{ops:Array Oper}{rest:List Oper}{o:Oper}{a:Act}{Q:Exit->Act->World->Prop}(e:o.guard=none)(s x:Operand)
  (q:o.op=.call {callee:=.builtin .append,args:=#[s,x],argTypes:=#[109,109]}) (base:Nat) (v:Value) (l:List FS) (f:FS) (r:a.eval s=v) (b:w.ownsRow base 113 3 v l.length (zL l))
  (c:Nat) (t:a.eval x=.slice (some (U c 0)) 1 1) (d:w.1[c]?=some (.cells #[.string f.name,.string f.data,I f.safe] 113 (0,0))) (y:l.length<=1099511627776) (hbase:base<=w.1.size)
  (h:∀g cap w',w'.ownsRow base 113 3 (.slice (some (U g 0)) (l.length+1) cap) (l++[f]).length (zL (l++[f]))->w'.ownsRow base 113 3 v l.length (zL l)->w.grownBy w' v.ownBlock->(v.ownBlock=some g\/g=w.1.size)->g<w'.1.size->wpList prog ops Q rest (a.put o.dst (.slice (some (U g 0)) (l.length+1) cap)) w'):wpList prog ops Q (o::rest) a w:=
 xM e s x 109 q base 113 _ 3 40 underlying109 Tryz.infoFile rfl (by decide) v l.length (zL l) r b (U c 0) 1 1 [.string f.name,.string f.data,I f.safe] t rfl
  (World.news_of_block (cs:=#[.string f.name,.string f.data,I f.safe]) d) (by intro u i;simp at i;rcases i with rfl|rfl|rfl<;>rfl) (by decide) (by simp only[maxLen];omega) (by omega) hbase
  fun g cap w' j k m n p=>h g cap w' (QA rfl j) k m n p
theorem YV(w:World)(o a:Obj):((w.alloc o).alloc a).1[w.1.size+1]?=some a:=by
 have h:=heap_alloc_last (w.alloc o) a
 rwa[show(w.alloc o).1.size=w.1.size+1 by simp]at h
theorem xP(w:World)(o:Obj):(w.alloc o).1.size=w.1.size+1:=by simp
theorem Xr(w:World)(o a:Obj):((w.alloc o).alloc a).1.size=w.1.size+2:=by simp
def qE(S:DS)(name:ByteArray):DS:=if zo S then zm S else zcW (zm S) name
theorem zjd(B:Nat)(p:Nat)(S:DS)(fs:Value)(b:ByteArray)(w:World)(N:Nat)(hN:N<=1099511627776)(L:DOk S N)(hB:B<=w.1.size)(hs:zo S=false)(h:zw 111 113 B w p S fs):
  Calls prog 206 #[(O p),.string b] w fun e w'=>e=.returned (.bool true)/\∃r,zw 111 113 B w' p (zcW (zm S) b) r/\zh (foot p fs) w w'/\∀k,r.ownBlock=some k->fs.ownBlock=some k\/w.1.size<=k:=by
 obtain⟨H,J,hn,s⟩:=L
 have o:=ze (yr B p S fs w ⟨H,J⟩ h)
 rw[hs]at o
 have Y:(zm S).files.length<=N:=by rw[zq];exact hn
 have C:Hid ((zm S).files.length=S.files.length):=by show _=_;rw[zq]
 obtain⟨a,q,rfl⟩:=Yy h.row
 clear hs s h
 go_enter func206,ntmps206
 go_wp2_with(go_at_call 197;refine(ud o).mono ?_;rintro e i ⟨rfl,u,m⟩;have c0:=u.c0)
 go_loopw [5,7,16] (fun v _ y wr=>∃(k:Nat),k<=S.files.length/\y=I k/\wr.ownsRow i.1.size 113 3 v (yX (fun f=>!eqS f.name b) (zm S).files k).length (zL (yX (fun f=>!eqS f.name b) (zm S).files k))/\Below i.1.size i wr) (fun _ _ y _=>S.files.length-(intOf y).toNat)
 case atStart=>exact⟨0,Nat.zero_le _,rfl,by rw[K5];exact JE _ _ _ _,Below.refl _ _⟩
 case round=>
  obtain⟨k,z,rfl,hv,c⟩:=hrel
  have a2:=XT (fun f=>!eqS f.name b) (zm S).files k
  have x:=u.later c
  by_cases K:k<S.files.length
  ·obtain⟨f,F⟩:=XO (l:=(zm S).files) (k:=k) (by rw[ud C];exact K)
   obtain⟨g,V,M,-⟩:=x.files (by rw[ud C];omega)
   injection M with P Q R
   subst P
   obtain⟨x0,x1,x2,xf⟩:=x.at F
   have U:=ze F
   have a3:(k:Int)<S.files.length:=by omega
   clear F Q R
   cases n:eqS f.name b
   ·have E:(f.name.toList==b.toList)=false:=n
    have A:=ze (Vy (p:=fun f=>!eqS f.name b) (ud U) (by simp[n]))
    clear n
    have hbs:=c.size
    go_wp2_with(first
     |(at_builtin;refine Kn rfl _ _ rfl i.1.size _ (yX (fun f=>!eqS f.name b) (zm S).files k) f rfl ((hv.alloc _).alloc _) (wr.1.size+1) rfl (YV _ _ _) ?hll ?hbb ?_;(case hll=>omega);(case hbb=>(rw[Xr];omega));intro g2 W w3 t a0 j a1 Z)
     |fail)
    have D:Below i.1.size i w3:=((c.alloc hbs _).alloc (by simp;omega) _).grown j (by simp;omega) (fun k z=>(hv.lt k z).1)
    exact⟨⟨k+1,by omega,by go_num,by rw[ud A];exact t,D⟩,by simp[intOf];omega⟩
   ·have E:(f.name.toList==b.toList)=true:=n
    have A:=ze (YY (p:=fun f=>!eqS f.name b) (ud U) (by simp[n]))
    have hbs:=c.size
    clear n
    go_wp2
    go_roundw
    case rel=>exact⟨k+1,by omega,by go_num,by rw[ud A];exact hv.alloc _,c.alloc hbs _⟩
    case measure=>simp[intOf];omega
  ·have e:k=(zm S).files.length:=by rw[ud C];omega
   have hbs:=c.size
   have G:zh (foot p (.slice a S.files.length q)) i wr:=zh.of_below c
   have d:=Zs hv (show B<=i.1.size by have:=m.size;omega)
   rw[e,Vx]at d
   obtain⟨a5,X,rfl⟩:=VM hv
   obtain⟨hD,hK⟩:=u.setFiles (by decide) G (c.block p u.lt) d
   have T:=hv.lt
   have d0:=x.c0
   have d1:=x.free 0
   clear e
   go_wp2
   go_ret
   exact⟨rfl,_,hD,m.trans hK (fun _ _ hh=>hh),fun k z=> .inr (by have:=(T k z).1;have:=m.size;omega)⟩
theorem KT(B:Nat)(p:Nat)(S:DS)(fs:Value)(k:ByteArray)(w:World)(N:Nat)(g:DOk S N)(i:zo S=true)(h:zw 111 113 B w p S fs):
  Calls prog 206 #[(O p),.string k] w fun e w'=>e=.returned (.bool false)/\zw 111 113 B w' p (zm S) fs/\zh (foot p fs) w w':=by
 obtain⟨d,f,hn,b⟩:=g
 have a:=ze (yr B p S fs w ⟨d,f⟩ h)
 rw[i]at a
 clear i b
 go_enter func206,ntmps206
 go_wp2_with(go_at_call 197;refine(ud a).mono ?_;rintro e l ⟨rfl,j,c⟩)
 go_ret
 exact⟨rfl,j,c⟩
theorem zfT(B:Nat)(p:Nat)(S:DS)(fs:Value)(a:ByteArray)(w:World)(N:Nat)(l:N<=1099511627776)(c:DOk S N)(j:B<=w.1.size)(h:zw 111 113 B w p S fs):
  Calls prog 206 #[(O p),.string a] w fun e w'=>e=.returned (.bool (!zo S))/\∃b,zw 111 113 B w' p (qE S a) b/\zh (foot p fs) w w'/\∀k,b.ownBlock=some k->fs.ownBlock=some k\/w.1.size<=k:=by
 cases d:zo S
 ·have e:qE S a=zcW (zm S) a:=by simp[qE,d]
  rw[e]
  exact zjd B p S fs a w N l c j d h
 ·have e:qE S a=zm S:=by simp[qE,d]
  rw[e]
  exact(KT B p S fs a w N c d h).mono fun e w' ⟨f,g,i⟩=>⟨f,fs,g,i,fun k m=> .inl m⟩
end Go.Proofs.YtndhpgciopcncaaGreatDoor
