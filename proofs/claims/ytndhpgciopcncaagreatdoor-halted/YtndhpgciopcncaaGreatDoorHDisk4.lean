import Derived.Test.YtndhpgciopcncaaGreatDoorHDisk3
set_option linter.unusedVariables false
set_option maxHeartbeats 1000000
open Go.Proofs.Tryz
namespace Go.Proofs.YtndhpgciopcncaaGreatDoor
open Go.RowKit
variable {f:FS} {p:FS->Bool} {l:List FS} {xs:List Value} {base k n size:Nat} {v:Value} {w:World}
theorem ZN{a:Nat}{e:TypeId}(h:w.ownsRow base e size v n xs)(i:a<=base):w.ownsRow a e size v n xs:=by
 refine⟨h.1,?_⟩;rcases h.2 with d|⟨g,cap,b,c,f,r⟩
 ·exact .inl d
 ·exact .inr ⟨g,cap,b,c,by omega,r⟩
theorem J8{e:TypeId}(h:w.ownsRow base e size v n xs):∃a cap,v=.slice a n cap:=by
 rcases h.2 with⟨b,c⟩|⟨g,cap,_,b,_⟩
 ·exact⟨none,0,by rw[b,c]⟩
 ·exact⟨_,cap,b⟩
theorem zae(w:World)(base:Nat)(e:TypeId)(size:Nat):w.ownsRow base e size (.slice none 0 0) 0 []:=World.ownsRow_nil w base e size
theorem ZG(h:l[k]?=some f):l.take (k+1)=l.take k++[f]:=by
 rw[List.take_add_one,h];rfl
def km(p:FS->Bool)(l:List FS)(k:Nat):List FS:=(l.take k).filter p
theorem Kn(p:FS->Bool)(l:List FS):km p l 0=[]:=by simp[km]
theorem VU(h:l[k]?=some f)(a:p f=true):km p l (k+1)=km p l k++[f]:=by
 simp[km,ZG h,List.filter_append,a]
theorem Km(h:l[k]?=some f)(a:p f=false):km p l (k+1)=km p l k:=by
 simp[km,ZG h,List.filter_append,a]
theorem Q7(p:FS->Bool)(l:List FS)(k:Nat):(km p l k).length<=k:=by
 have:=List.length_filter_le p (l.take k);have:=List.length_take_le k l;unfold km;omega
theorem VT(p:FS->Bool)(l:List FS):km p l l.length=l.filter p:=by simp[km]
theorem KJ{ops:Array Oper}{rest:List Oper}{o:Oper}{a:Act}{Q:Exit->Act->World->Prop}(d:o.guard=none)(s x:Operand)(p:o.op=.call {callee:=.builtin .append,args:=#[s,x],argTypes:=#[109,109]})(base:Nat)(v:Value)(l:List FS)(f:FS)(q:a.eval s=v)(b:w.ownsRow base 113 3 v l.length (zK l))(B1:Nat)(r:a.eval x=.slice (some (U B1 0)) 1 1)(c:w.1[B1]?=some (.cells #[.string f.name,.string f.data,I f.safe] 113 (0,0)))(t:l.length<=1099511627776)(hbase:base<=w.1.size)(h:∀g cap w',w'.ownsRow base 113 3 (.slice (some (U g 0)) (l.length+1) cap) (l++[f]).length (zK (l++[f]))->w'.ownsRow base 113 3 v l.length (zK l)->w.grownBy w' v.ownBlock->(v.ownBlock=some g\/g=w.1.size)->g<w'.1.size->wpList prog ops Q rest (a.put o.dst (.slice (some (U g 0)) (l.length+1) cap)) w'):wpList prog ops Q (o::rest) a w:=
 xQ d s x 109 p base 113 _ 3 40 underlying109 Tryz.infoFile rfl (by decide) v l.length (zK l) q b (U B1 0) 1 1 [.string f.name,.string f.data,I f.safe] r rfl
  (World.news_of_block (cs:=#[.string f.name,.string f.data,I f.safe]) c) (by intro u e;simp at e;rcases e with rfl|rfl|rfl<;>rfl) (by decide) (by simp only[maxLen];omega) (by omega) hbase
  fun g cap w' i j k m n=>h g cap w' (QI rfl i) j k m n
theorem Ki(w:World)(o a:Obj):((w.alloc o).alloc a).1[w.1.size+1]?=some a:=by
 have h:=heap_alloc_last (w.alloc o) a;rwa[show(w.alloc o).1.size=w.1.size+1 by simp]at h
theorem xU(w:World)(o:Obj):(w.alloc o).1.size=w.1.size+1:=by simp
theorem XG(w:World)(o a:Obj):((w.alloc o).alloc a).1.size=w.1.size+2:=by simp
def qG(S:DS)(name:ByteArray):DS:=if zj S then zm S else zal (zm S) name
theorem zjl(B:Nat)(p:Nat)(S:DS)(fs:Value)(nm:ByteArray)(w:World)(N:Nat)(hN:N<=1099511627776)(J:DOk S N)(hB:B<=w.1.size)(Z:zj S=false)(h:zx 111 113 B w p S fs):
  Calls prog 206 #[(O p),.string nm] w fun e w'=>e=.returned (.bool true)/\∃o,zx 111 113 B w' p (zal (zm S) nm) o/\zi (foot p fs) w w'/\∀k,o.ownBlock=some k->fs.ownBlock=some k\/w.1.size<=k:=by
 obtain⟨F,G,hn,q⟩:=J;have m:=ze (yD B p S fs w ⟨F,G⟩ h);rw[Z]at m;have W:(zm S).files.length<=N:=by rw[zr];exact hn
 have z:Hid ((zm S).files.length=S.files.length):=by show _=_;rw[zr]
 obtain⟨a,n,rfl⟩:=YI h.row;clear Z q h;go_enter func206,ntmps206;go_wp2_with(go_at_call 197;refine(ud m).mono ?_;rintro e w1 ⟨rfl,s,i⟩;have c0:=s.c0);go_loopw [5,7,16] (fun v _ y wr=>∃(k:Nat),k<=S.files.length/\y=I k/\wr.ownsRow w1.1.size 113 3 v (km (fun f=>!eqS f.name nm) (zm S).files k).length (zK (km (fun f=>!eqS f.name nm) (zm S).files k))/\Below w1.1.size w1 wr) (fun _ _ y _=>S.files.length-(intOf y).toNat);case atStart=>exact⟨0,Nat.zero_le _,rfl,by rw[Kn];exact zae _ _ _ _,Below.refl _ _⟩
 case round=>
  obtain⟨k,u,rfl,hv,b⟩:=hrel;have a1:=Q7 (fun f=>!eqS f.name nm) (zm S).files k;have t:=s.later b;by_cases H:k<S.files.length
  ·obtain⟨f,D⟩:=XY (l:=(zm S).files) (k:=k) (by rw[ud z];exact H);obtain⟨g,T,K,-⟩:=t.files (by rw[ud z];omega);injection K with L M P;subst L;obtain⟨x0,x1,x2,xf⟩:=t.at D;have R:=ze D;have a2:(k:Int)<S.files.length:=(by omega);clear D M P;cases j:eqS f.name nm
   ·have C:(f.name.toList==nm.toList)=false:=j;have x:=ze (VU (p:=fun f=>!eqS f.name nm) (ud R) (by simp[j]));clear j;have hbs:=b.size;go_wp2_with(first
     |(at_builtin;refine KJ rfl _ _ rfl w1.1.size _ (km (fun f=>!eqS f.name nm) (zm S).files k) f rfl ((hv.alloc _).alloc _) (wr.1.size+1) rfl (Ki _ _ _) ?hll ?hbb ?_;(case hll=>omega);(case hbb=>(rw[XG];omega));intro g2 U w3 r Y d a0 X)
     |fail)
    have A:Below w1.1.size w1 w3:=((b.alloc hbs _).alloc (by simp;omega) _).grown d (by simp;omega) (fun k u=>(hv.lt k u).1);exact⟨⟨k+1,by omega,by go_num,by rw[ud x];exact r,A⟩,by simp[intOf];omega⟩
   ·have C:(f.name.toList==nm.toList)=true:=j;have x:=ze (Km (p:=fun f=>!eqS f.name nm) (ud R) (by simp[j]));have hbs:=b.size;clear j;go_wp2;go_roundw;case rel=>exact⟨k+1,by omega,by go_num,by rw[ud x];exact hv.alloc _,b.alloc hbs _⟩
    case measure=>simp[intOf];omega
  ·have e:k=(zm S).files.length:=(by rw[ud z];omega);have hbs:=b.size;have E:zi (foot p (.slice a S.files.length n)) w1 wr:=zi.of_below b;have c:=ZN hv (show B<=w1.1.size by have:=i.size;omega);rw[e,VT]at c;obtain⟨a5,V,rfl⟩:=J8 hv;obtain⟨hD,hK⟩:=s.setFiles (by decide) E (b.block p s.lt) c;have Q:=hv.lt;have d0:=t.c0;have d1:=t.free 0;clear e;go_wp2;go_ret;exact⟨rfl,_,hD,i.trans hK (fun _ _ hh=>hh),fun k u=> .inr (by have:=(Q k u).1;have:=i.size;omega)⟩
theorem Vr(B:Nat)(p:Nat)(S:DS)(fs:Value)(nm:ByteArray)(w:World)(N:Nat)(g:DOk S N)(i:zj S=true)(h:zx 111 113 B w p S fs):
  Calls prog 206 #[(O p),.string nm] w fun e w'=>e=.returned (.bool false)/\zx 111 113 B w' p (zm S) fs/\zi (foot p fs) w w':=by
 obtain⟨d,f,hn,b⟩:=g;have a:=ze (yD B p S fs w ⟨d,f⟩ h);rw[i]at a;clear i b;go_enter func206,ntmps206;go_wp2_with(go_at_call 197;refine(ud a).mono ?_;rintro e w1 ⟨rfl,j,c⟩);go_ret;exact⟨rfl,j,c⟩
theorem zgq(B:Nat)(p:Nat)(S:DS)(fs:Value)(nm:ByteArray)(w:World)(N:Nat)(j:N<=1099511627776)(b:DOk S N)(i:B<=w.1.size)(h:zx 111 113 B w p S fs):
  Calls prog 206 #[(O p),.string nm] w fun e w'=>e=.returned (.bool (!zj S))/\∃a,zx 111 113 B w' p (qG S nm) a/\zi (foot p fs) w w'/\∀k,a.ownBlock=some k->fs.ownBlock=some k\/w.1.size<=k:=by
 cases c:zj S
 ·have e:qG S nm=zal (zm S) nm:=by simp[qG,c]
  rw[e];exact zjl B p S fs nm w N j b i c h
 ·have e:qG S nm=zm S:=by simp[qG,c]
  rw[e];exact(Vr B p S fs nm w N b c h).mono fun e w' ⟨d,f,g⟩=>⟨d,fs,f,g,fun k l=> .inl l⟩
end Go.Proofs.YtndhpgciopcncaaGreatDoor
