import Derived.Test.YtndhpgciopcncaaGreatDoorUDisk2
open Go.Value (int)
open Go.IntKind (i64)
set_option linter.unusedVariables false
set_option maxHeartbeats 1000000
open Go.Proofs.Tryz
namespace Go.Proofs.YtndhpgciopcncaaGreatDoor
open Go.RowKit
theorem Zn{w:World}{base a size n:Nat}{e:TypeId}{v:Value}{xs:List Value}(h:w.ownsRow base e size v n xs)(i:a<=base):w.ownsRow a e size v n xs:=by
 refine⟨h.1,?_⟩
 rcases h.2 with d|⟨g,cap,b,c,f,r⟩
 ·exact .inl d
 ·exact .inr ⟨g,cap,b,c,by omega,r⟩
theorem zaZ{w:World}{base size n:Nat}{e:TypeId}{v:Value}{xs:List Value}(h:w.ownsRow base e size v n xs):∃a cap,v=.slice a n cap:=by
 rcases h.2 with⟨b,c⟩|⟨g,cap,_,b,_⟩
 ·exact⟨none,0,by rw[b,c]⟩
 ·exact⟨_,cap,b⟩
theorem Yz(w:World)(base:Nat)(e:TypeId)(size:Nat):w.ownsRow base e size (.slice none 0 0) 0 []:=World.ownsRow_nil w base e size
theorem ZO{l:List FS}{k:Nat}{f:FS}(h:l[k]?=some f):l.take (k+1)=l.take k++[f]:=by
 rw[List.take_add_one,h];rfl
def yg(p:FS->Bool)(l:List FS)(k:Nat):List FS:=(l.take k).filter p
theorem XI(p:FS->Bool)(l:List FS):yg p l 0=[]:=by simp[yg]
theorem QB{p:FS->Bool}{l:List FS}{k:Nat}{f:FS}(h:l[k]?=some f)(a:p f=true):yg p l (k+1)=yg p l k++[f]:=by
 simp[yg,ZO h,List.filter_append,a]
theorem XH{p:FS->Bool}{l:List FS}{k:Nat}{f:FS}(h:l[k]?=some f)(a:p f=false):yg p l (k+1)=yg p l k:=by
 simp[yg,ZO h,List.filter_append,a]
theorem Z7(p:FS->Bool)(l:List FS)(k:Nat):(yg p l k).length<=k:=by
 have:=List.length_filter_le p (l.take k);have:=List.length_take_le k l;unfold yg;omega
theorem QA(p:FS->Bool)(l:List FS):yg p l l.length=l.filter p:=by simp[yg]
theorem XX{w:World}{ops:Array Oper}{rest:List Oper}{o:Oper}{a:Act}{Q:Exit->Act->World->Prop}(e:o.guard=none)(s x:Operand)
  (q:o.op=.call {callee:=.builtin .append,args:=#[s,x],argTypes:=#[109,109]}) (base:Nat) (v:Value) (l:List FS) (f:FS) (r:a.eval s=v) (b:w.ownsRow base 113 3 v l.length (zJ l))
  (c:Nat) (t:a.eval x=.slice (some ⟨c,0,none⟩) 1 1) (d:w.1[c]?=some (.cells #[.string f.name,.string f.data,int i64 f.safe] 113 (0,0))) (y:l.length<=1099511627776) (hbase:base<=w.1.size)
  (h:∀g cap w',w'.ownsRow base 113 3 (.slice (some ⟨g,0,none⟩) (l.length+1) cap) (l++[f]).length (zJ (l++[f]))->w'.ownsRow base 113 3 v l.length (zJ l)->w.grownBy w' v.ownBlock->(v.ownBlock=some g\/g=w.1.size)->g<w'.1.size->wpList prog ops Q rest (a.put o.dst (.slice (some ⟨g,0,none⟩) (l.length+1) cap)) w'):wpList prog ops Q (o::rest) a w:=
 xJ e s x 109 q base 113 _ 3 40 underlying109 Tryz.infoFile rfl (by decide) v l.length (zJ l) r b ⟨c,0,none⟩ 1 1 [.string f.name,.string f.data,int i64 f.safe] t rfl
  (World.news_of_block (cs:=#[.string f.name,.string f.data,int i64 f.safe]) d) (by intro u i;simp at i;rcases i with rfl|rfl|rfl<;>rfl) (by decide) (by simp only[maxLen];omega) (by omega) hbase
  fun g cap w' j k m n p=>h g cap w' (QR rfl j) k m n p
theorem XC(w:World)(o a:Obj):((w.alloc o).alloc a).1[w.1.size+1]?=some a:=by
 have h:=heap_alloc_last (w.alloc o) a
 rwa[show(w.alloc o).1.size=w.1.size+1 by simp]at h
theorem kY(w:World)(o:Obj):(w.alloc o).1.size=w.1.size+1:=by simp
theorem jQ(w:World)(o a:Obj):((w.alloc o).alloc a).1.size=w.1.size+2:=by simp
def qe(S:DS)(name:ByteArray):DS:=if zj S then ze S else Jg (ze S) name
theorem zds(B:Nat)(p:Nat)(S:DS)(fs:Value)(b:ByteArray)(w:World)(N:Nat)(hN:N<=1099511627776)(K:DOk S N)(hB:B<=w.1.size)(Z:zj S=false)(h:zx 111 113 B w p S fs):
  Calls prog 206 #[.pointer (some ⟨p,0,none⟩),.string b] w fun e w'=>e=.returned (.bool true)/\∃r,zx 111 113 B w' p (Jg (ze S) b) r/\zo (foot p fs) w w'/\∀k,r.ownBlock=some k->fs.ownBlock=some k\/w.1.size<=k:=by
 obtain⟨H,I,hn,s⟩:=K
 have o:=zd (qJ B p S fs w ⟨H,I⟩ h)
 rw[Z]at o
 have W:(ze S).files.length<=N:=by rw[zn];exact hn
 have C:Hid ((ze S).files.length=S.files.length):=by show _=_;rw[zn]
 obtain⟨a,q,rfl⟩:=YM h.row
 clear Z s h
 go_enter func206,ntmps206
 go_wp2_with(go_at_call 197;refine(ud o).mono ?_;rintro e i ⟨rfl,u,m⟩;have c0:=u.c0)
 go_loopw [5,7,16] (fun v _ y wr=>∃(k:Nat),k<=S.files.length/\y=int i64 k/\wr.ownsRow i.1.size 113 3 v (yg (fun f=>!eqS f.name b) (ze S).files k).length (zJ (yg (fun f=>!eqS f.name b) (ze S).files k))/\Below i.1.size i wr) (fun _ _ y _=>S.files.length-(intOf y).toNat)
 case atStart=>exact⟨0,Nat.zero_le _,rfl,by rw[XI];exact Yz _ _ _ _,Below.refl _ _⟩
 case round=>
  obtain⟨k,z,rfl,hv,c⟩:=hrel
  have a1:=Z7 (fun f=>!eqS f.name b) (ze S).files k
  have x:=u.later c
  by_cases J:k<S.files.length
  ·obtain⟨f,F⟩:=Xv (l:=(ze S).files) (k:=k) (by rw[ud C];exact J)
   obtain⟨g,T,L,-⟩:=x.files (by rw[ud C];omega)
   injection L with M O P
   subst M
   obtain⟨x0,x1,x2,xf⟩:=x.at F
   have R:=zd F
   have a2:(k:Int)<S.files.length:=by omega
   clear F O P
   cases n:eqS f.name b
   ·have E:(f.name.toList==b.toList)=false:=n
    have A:=zd (QB (p:=fun f=>!eqS f.name b) (ud R) (by simp[n]))
    clear n
    have hbs:=c.size
    go_wp2_with(first
     |(at_builtin;refine XX rfl _ _ rfl i.1.size _ (yg (fun f=>!eqS f.name b) (ze S).files k) f rfl ((hv.alloc _).alloc _) (wr.1.size+1) rfl (XC _ _ _) ?hll ?hbb ?_;(case hll=>omega);(case hbb=>(rw[jQ];omega));intro g2 U w3 t Y j a0 X)
     |fail)
    have D:Below i.1.size i w3:=((c.alloc hbs _).alloc (by simp;omega) _).grown j (by simp;omega) (fun k z=>(hv.lt k z).1)
    exact⟨⟨k+1,by omega,by go_num,by rw[ud A];exact t,D⟩,by simp[intOf];omega⟩
   ·have E:(f.name.toList==b.toList)=true:=n
    have A:=zd (XH (p:=fun f=>!eqS f.name b) (ud R) (by simp[n]))
    have hbs:=c.size
    clear n
    go_wp2
    go_roundw
    case rel=>exact⟨k+1,by omega,by go_num,by rw[ud A];exact hv.alloc _,c.alloc hbs _⟩
    case measure=>simp[intOf];omega
  ·have e:k=(ze S).files.length:=by rw[ud C];omega
   have hbs:=c.size
   have G:zo (foot p (.slice a S.files.length q)) i wr:=zo.of_below c
   have d:=Zn hv (show B<=i.1.size by have:=m.size;omega)
   rw[e,QA]at d
   obtain⟨a5,V,rfl⟩:=zaZ hv
   obtain⟨hD,hK⟩:=u.setFiles (by decide) G (c.block p u.lt) d
   have Q:=hv.lt
   have d0:=x.c0
   have d1:=x.free 0
   clear e
   go_wp2
   go_ret
   exact⟨rfl,_,hD,m.trans hK (fun _ _ hh=>hh),fun k z=> .inr (by have:=(Q k z).1;have:=m.size;omega)⟩
theorem Qn(B:Nat)(p:Nat)(S:DS)(fs:Value)(k:ByteArray)(w:World)(N:Nat)(g:DOk S N)(i:zj S=true)(h:zx 111 113 B w p S fs):
  Calls prog 206 #[.pointer (some ⟨p,0,none⟩),.string k] w fun e w'=>e=.returned (.bool false)/\zx 111 113 B w' p (ze S) fs/\zo (foot p fs) w w':=by
 obtain⟨d,f,hn,b⟩:=g
 have a:=zd (qJ B p S fs w ⟨d,f⟩ h)
 rw[i]at a
 clear i b
 go_enter func206,ntmps206
 go_wp2_with(go_at_call 197;refine(ud a).mono ?_;rintro e l ⟨rfl,j,c⟩)
 go_ret
 exact⟨rfl,j,c⟩
theorem zbk(B:Nat)(p:Nat)(S:DS)(fs:Value)(a:ByteArray)(w:World)(N:Nat)(l:N<=1099511627776)(c:DOk S N)(j:B<=w.1.size)(h:zx 111 113 B w p S fs):
  Calls prog 206 #[.pointer (some ⟨p,0,none⟩),.string a] w fun e w'=>e=.returned (.bool (!zj S))/\∃b,zx 111 113 B w' p (qe S a) b/\zo (foot p fs) w w'/\∀k,b.ownBlock=some k->fs.ownBlock=some k\/w.1.size<=k:=by
 cases d:zj S
 ·have e:qe S a=Jg (ze S) a:=by simp[qe,d]
  rw[e]
  exact zds B p S fs a w N l c j d h
 ·have e:qe S a=ze S:=by simp[qe,d]
  rw[e]
  exact(Qn B p S fs a w N c d h).mono fun e w' ⟨f,g,i⟩=>⟨f,fs,g,i,fun k m=> .inl m⟩
end Go.Proofs.YtndhpgciopcncaaGreatDoor
