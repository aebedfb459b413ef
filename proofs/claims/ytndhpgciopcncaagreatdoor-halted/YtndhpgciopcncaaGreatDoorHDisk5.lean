import Derived.Test.YtndhpgciopcncaaGreatDoorHDisk4
import Derived.Deep.RegionLaw
open Option renaming some → J
set_option linter.unusedVariables false
set_option maxHeartbeats 2000000
open Go.Proofs.Tryz
namespace Go.Proofs.YtndhpgciopcncaaGreatDoor
open Go.RowKit
variable {new old:ByteArray} {S:DS} {i:Nat} {w:World}
theorem jr{ops:Array Oper}{o:Oper}{a:Act}{K:Act->World->Prop}{Q:Exit->Act->World->Prop}{E:Prop}(j:o.guard=none)(s x:Operand)(t:o.op=.call {callee:=.builtin .append,args:=#[s,x],argTypes:=#[109,109]})(base:Nat)(v:Value)(l:List FS)(f:FS)(z:a.eval s=v)(d:w.ownsRow base 113 3 v l.length (zK l))(B1:Nat)(B:a.eval x=.slice (J (U B1 0)) 1 1)(e:w.1[B1]?=J (.cells #[.string f.name,.string f.data,I f.safe] 113 (0,0)))(D:l.length<=1099511627776)(hbase:base<=w.1.size)(h:∀g cap w',w'.ownsRow base 113 3 (.slice (J (U g 0)) (l.length+1) cap) (l++[f]).length (zK (l++[f]))->w.grownBy w' v.ownBlock->(v.ownBlock=J g\/g=w.1.size)->g<w'.1.size->K (a.put o.dst (.slice (J (U g 0)) (l.length+1) cap)) w'):
  if Region.wanted o (yielded ops a.tmps)=true then Oper.wp prog o a w K Q else E:=by
 have A:Region.wanted o (yielded ops a.tmps)=true:=by simp[Region.wanted,j]
 rw[if_pos A];have b:=Tryz.infoFile;cases k:prog.info? 113 with
 |none=>simp[k]at b
 |some i=>
  simp only[k,Option.map_some,Option.some.injEq,Prod.mk.injEq]at b;obtain⟨C,c,hby⟩:=b;obtain⟨g,cap,w',y,n,_,p,q,r⟩:=vH (P:=prog) w 109 o.type base 113 i _ 3 40 underlying109 k C c hby rfl (by decide) v l.length (zK l) d (U B1 0) 1 1 [.string f.name,.string f.data,I f.safe] rfl
   (World.news_of_block (cs:=#[.string f.name,.string f.data,I f.safe]) e) (by intro u m;simp at m;rcases m with rfl|rfl|rfl<;>rfl) (by decide) (by simp only[maxLen];omega) (by omega) hbase
  unfold Oper.wp;simp[execOp,t,resolve,invoke,builtin,z,B,y,Result.andThen];exact h g cap w' (QI rfl n) p q r
theorem KE{base size n:Nat}{e:TypeId}{v:Value}{xs:List Value}(h:w.ownsRow base e size v n xs):w.drew.ownsRow base e size v n xs:=h
theorem Qw{w':World}{row:Option Nat}(h:w.drew.grownBy w' row):w.grownBy w' row:=⟨h.os,h.tape,h.output,h.size,h.block⟩
theorem jj(w:World)(o:Obj):(w.alloc o).drew.1[w.1.size]?=J o:=heap_alloc_last w o
theorem KV(w:World)(o:Obj):(w.alloc o).drew.1.size=w.1.size+1:=xU w o
def yX(old new:ByteArray)(f:FS):Bool:=!eqS f.name new&&!eqS f.name old
theorem zdR(l:List FS)(old new:ByteArray):ZL (ZL l old) new=l.filter (yX old new):=by
 unfold ZL;rw[List.filter_filter];rfl
def qt(S:DS)(old new:ByteArray):DS:=if zj S then zm S else zam (zm S) old new
theorem vy(a:zj S=true):qt S old new=zm S:=by simp[qt,a]
theorem Yj(b:zj S=false)(a:xL S.files old=none):qt S old new=zm S:=by simp[qt,b,zam,zr,a]
theorem Yk(c:zj S=false)(a:xL S.files old=J i)(b:eqS old new=true):qt S old new=zm S:=by simp[qt,c,zam,zr,a,b]
theorem kB{f:FS}(d:zj S=false)(a:xL S.files old=J i)(c:S.files[i]?=J f)(b:eqS old new=false):qt S old new={zm S with files:=(zm S).files.filter (yX old new)++[{f with name:=new}]}:=by
 simp[qt,d,zam,zr,a,c,b,zdR]
theorem Vs(B:Nat)(p:Nat)(S:DS)(fs:Value)(old new:ByteArray)(w:World)(N:Nat)(l:N<=1099511627776)(i:DOk S N)(k:zj S=true)(h:zx 111 113 B w p S fs):
  Calls prog 207 #[(O p),.string old,.string new] w fun e w'=>e=.returned (.bool false)/\zx 111 113 B w' p (zm S) fs/\zi (foot p fs) w w':=by
 obtain⟨f,g,hn,b⟩:=i;have a:=ze (yD B p S fs w ⟨f,g⟩ h);rw[k]at a;have c:(zm S).files.length<=N:=by rw[zr];exact hn
 clear k b;go_enter func207,ntmps207;go_wp2_with(first
  |(go_at_call 197;refine(ud a).mono ?_;rintro e w1 ⟨rfl,j,d⟩)
  |(go_at_call 198;refine(yW B p (zm S) _ old _ N l c j).mono ?_;rintro e w2 ⟨rfl,rfl⟩))
 go_ret;exact⟨rfl,j,d⟩
theorem zdC(B:Nat)(p:Nat)(S:DS)(fs:Value)(old new:ByteArray)(w:World)(N:Nat)(n:N<=1099511627776)(k:DOk S N)(m:zj S=false)(d:xL S.files old=none)(h:zx 111 113 B w p S fs):
  Calls prog 207 #[(O p),.string old,.string new] w fun e w'=>e=.returned (.bool true)/\zx 111 113 B w' p (zm S) fs/\zi (foot p fs) w w':=by
 obtain⟨i,j,hn,b⟩:=k;have a:=ze (yD B p S fs w ⟨i,j⟩ h);rw[m]at a;have c:(zm S).files.length<=N:=by rw[zr];exact hn
 have f:Hid (qN (zm S).files old= -1):=by show _=_;simp[qN,zr,d]
 clear d;clear m b;go_enter func207,ntmps207;go_wp2_with(first
  |(go_at_call 197;refine(ud a).mono ?_;rintro e w1 ⟨rfl,l,g⟩)
  |(go_at_call 198;refine(yW B p (zm S) _ old _ N n c l).mono ?_;rintro e w2 ⟨rfl,rfl⟩;rw[ud f]))
 go_ret;exact⟨rfl,l,g⟩
theorem zdD(B:Nat)(p:Nat)(S:DS)(fs:Value)(old new:ByteArray)(w:World)(N:Nat)(q:N<=1099511627776)(l:DOk S N)(o:zj S=false)(i:Nat)(d:xL S.files old=J i)(n:eqS old new=true)(h:zx 111 113 B w p S fs):
  Calls prog 207 #[(O p),.string old,.string new] w fun e w'=>e=.returned (.bool true)/\zx 111 113 B w' p (zm S) fs/\zi (foot p fs) w w':=by
 obtain⟨j,k,hn,b⟩:=l;have a:=ze (yD B p S fs w ⟨j,k⟩ h);rw[o]at a;have c:(zm S).files.length<=N:=by rw[zr];exact hn
 have f:Hid (qN (zm S).files old=i):=by show _=_;simp[qN,zr,d]
 have r:(old.toList==new.toList)=true:=n;have s:¬(i:Int)<0:=by omega
 clear d n;clear o b;go_enter func207,ntmps207;go_wp2_with(first
  |(go_at_call 197;refine(ud a).mono ?_;rintro e w1 ⟨rfl,m,g⟩)
  |(go_at_call 198;refine(yW B p (zm S) _ old _ N q c m).mono ?_;rintro e w2 ⟨rfl,rfl⟩;rw[ud f]))
 go_ret;exact⟨rfl,m,g⟩
theorem zjm(B:Nat)(p:Nat)(S:DS)(fs:Value)(old new:ByteArray)(w:World)(N:Nat)(hN:N<=1099511627776)(a3:DOk S N)(hB:B<=w.1.size)(hs:zj S=false)(i:Nat)(f:FS)(M:xL S.files old=J i)(Y:S.files[i]?=J f)(he:eqS old new=false)(h:zx 111 113 B w p S fs):
  Calls prog 207 #[(O p),.string old,.string new] w fun e w'=>e=.returned (.bool true)/\∃C,zx 111 113 B w' p {zm S with files:=(zm S).files.filter (yX old new)++[{f with name:=new}]} C/\zi (foot p fs) w w'/\∀k,C.ownBlock=J k->fs.ownBlock=J k\/w.1.size<=k:=by
 obtain⟨a0,a1,hn,D⟩:=a3;have A:=ze (yD B p S fs w ⟨a0,a1⟩ h);rw[hs]at A;have a9:i<S.files.length:=(List.getElem?_eq_some_iff.1 Y).1;have aa:(i:Int)<S.files.length:=by omega
 have a7:¬(i:Int)<0:=by omega
 have a8:decide ((i:Int)<0)=false:=by simp
 have a6:(old.toList==new.toList)=false:=he;have R:Hid (qN (zm S).files old=i):=by show _=_;simp[qN,zr,M]
 have G:(zm S).files[i]?=J f:=by rw[zr];exact Y
 have HF:=ze G;have H:(zm S).files.length<=N:=by rw[zr];exact hn
 have HL:Hid ((zm S).files.length=S.files.length):=by show _=_;rw[zr]
 obtain⟨g,cap,rfl,-⟩:=h.files (by omega);clear hs M G D he h Y;go_enter func207,ntmps207;go_wp2_with(first
  |(go_at_call 197;refine(ud A).mono ?_;rintro e w0 ⟨rfl,s,j⟩)
  |(go_at_call 198;refine(yW B p (zm S) _ old _ N hN H s).mono ?_;rintro e w1 ⟨rfl,rfl⟩;rw[ud R];have T:=s.c0;obtain⟨x0,x1,x2,xf⟩:=s.at (ud HF);clear xf;have ad:=s.lt))
 have V:Below w1.1.size w1 (w1.alloc (.cells #[.string new,.string f.data,I f.safe] 113)):=(Below.refl _ _).alloc (Nat.le_refl _) _;go_loopw [9,11,39] (fun v _ y wr=>∃(k:Nat),k<=S.files.length/\y=I k/\wr.ownsRow (w1.1.size+1) 113 3 v (km (yX old new) (zm S).files k).length (zK (km (yX old new) (zm S).files k))/\Below (w1.1.size+1) (w1.alloc (.cells #[.string new,.string f.data,I f.safe] 113)) wr) (fun _ _ y _=>S.files.length-(intOf y).toNat);case atStart=>exact⟨0,Nat.zero_le _,rfl,by rw[Kn];exact zae _ _ _ _,Below.refl _ _⟩
 case round=>
  clear T x0 x1 x2;obtain⟨k,x,rfl,hv,n⟩:=hrel;have ab:=Q7 (yX old new) (zm S).files k;have E:Below w1.1.size w1 wr:=V.trans (n.mono (by omega));have Q:=s.later E;have hbs:w1.1.size+1<=wr.1.size:=by have:=n.size;rw[xU]at this;exact this
  by_cases a2:k<S.files.length
  ·obtain⟨m,u⟩:=XY (l:=(zm S).files) (k:=k) (by rw[ud HL];exact a2);obtain⟨x0,x1,x2,xf⟩:=Q.at u;have r:=ze u;have ac:(k:Int)<S.files.length:=(by omega);clear u xf;cases a:eqS m.name old
   ·cases d:eqS m.name new
    ·have q:(m.name.toList==old.toList)=false:=a;have F:(m.name.toList==new.toList)=false:=d;have z:=ze (VU (p:=yX old new) (ud r) (by simp[yX,a,d]));clear a d;go_wp2_with(first
      |(at_builtin;refine KJ rfl _ _ rfl (w1.1.size+1) _ (km (yX old new) (zm S).files k) m rfl ((hv.alloc _).alloc _) (wr.1.size+1) rfl (Ki _ _ _) ?hll ?hbb ?_;(case hll=>omega);(case hbb=>(rw[XG];omega));intro g2 a4 w3 c L b W K)
      |fail)
     have X:Below (w1.1.size+1) (w1.alloc (.cells #[.string new,.string f.data,I f.safe] 113)) w3:=((n.alloc (by omega) _).alloc (by rw[xU];omega) _).grown b (by rw[XG];omega) (fun k x=>(hv.lt k x).1);exact⟨⟨k+1,by omega,by go_num,by rw[ud z];exact c,X⟩,by simp[intOf];omega⟩
    ·have q:(m.name.toList==old.toList)=false:=a;have F:(m.name.toList==new.toList)=true:=d;have z:=ze (Km (p:=yX old new) (ud r) (by simp[yX,a,d]));clear a d;go_wp2;go_roundw;case rel=>exact⟨k+1,by omega,by go_num,by rw[ud z];exact hv.alloc _,n.alloc (by omega) _⟩
     case measure=>simp[intOf];omega
   ·have q:(m.name.toList==old.toList)=true:=a;have z:=ze (Km (p:=yX old new) (ud r) (by simp[yX,a]));clear a;go_wp2;go_roundw;case rel=>exact⟨k+1,by omega,by go_num,by rw[ud z];exact hv.alloc _,n.alloc (by omega) _⟩
    case measure=>simp[intOf];omega
  ·have e:k=(zm S).files.length:=(by rw[ud HL];omega);have P:=ZN hv (show B<=w1.1.size+1 by have:=j.size;omega);have af:=hv.lt;have hll:((zm S).files.filter (yX old new)).length<=N:=(by have:=List.length_filter_le (yX old new) (zm S).files;omega);rw[e,VT]at hv;have T:=Q.c0;have ae:=Q.lt;have Z:=Q.free 0;have y0:Cz wr w1.1.size 0 (.string new):=(n.cell (p:=(U w1.1.size 0)) (show w1.1.size<_ by omega)).trans (by rw[World.cell?_alloc_mark];rfl);have y1:Cz wr w1.1.size 1 (.string f.data):=(n.cell (p:=(U w1.1.size 1)) (show w1.1.size<_ by omega)).trans (by rw[World.cell?_alloc_mark];rfl);have y2:Cz wr w1.1.size 2 (I f.safe):=(n.cell (p:=(U w1.1.size 2)) (show w1.1.size<_ by omega)).trans (by rw[World.cell?_alloc_mark];rfl);clear e P;go_wp2_with(first
    |(at_builtin;refine KJ rfl _ _ rfl (w1.1.size+1) _ ((zm S).files.filter (yX old new)) {f with name:=new} rfl (hv.alloc _) wr.1.size rfl (heap_alloc_last _ _) ?hll ?hbb ?_;(case hll=>omega);(case hbb=>(rw[xU];omega));intro g3 a5 w4 c L b W K;have t:Below (w1.1.size+1) wr w4:=((Below.refl _ _).alloc (by omega) _).grown b (by rw[xU];omega) (fun k x=>(hv.lt k x).1);have d0:=(t.cell (p:=(U p 0)) (show p<_ by omega)).trans T;have d1:=(t.frozen (p:=(U p 0)) (show p<_ by omega)).trans Z)
    |fail)
   go_ret;have o:Below w1.1.size w1 w4:=E.trans (t.mono (by omega));obtain⟨hD,hK⟩:=s.setFiles (by decide) (zi.of_below o) (o.block p s.lt) (ZN c (show B<=w1.1.size+1 by have:=j.size;omega));exact⟨rfl,_,hD,j.trans hK (fun _ _ hh=>hh),fun k x=> .inr (by have:=(c.lt k x).1;have:=j.size;omega)⟩
theorem zgr(B:Nat)(p:Nat)(S:DS)(fs:Value)(old new:ByteArray)(w:World)(N:Nat)(n:N<=1099511627776)(b:DOk S N)(r:B<=w.1.size)(h:zx 111 113 B w p S fs):
  Calls prog 207 #[(O p),.string old,.string new] w fun e w'=>e=.returned (.bool (!zj S))/\∃d,zx 111 113 B w' p (qt S old new) d/\zi (foot p fs) w w'/\∀k,d.ownBlock=J k->fs.ownBlock=J k\/w.1.size<=k:=by
 cases c:zj S
 ·cases a:xL S.files old with
  |none=>
   rw[Yj c a];exact(zdC B p S fs old new w N n b c a h).mono fun e w' ⟨g,j,l⟩=>⟨g,fs,j,l,fun k m=> .inl m⟩
  |some i=>
   obtain⟨f,q,_,_⟩:=ku a;cases o:eqS old new
   ·rw[kB c a q o];exact zjm B p S fs old new w N n b r c i f a q o h
   ·rw[Yk c a o];exact(zdD B p S fs old new w N n b c i a o h).mono fun e w' ⟨g,j,l⟩=>⟨g,fs,j,l,fun k m=> .inl m⟩
 ·rw[vy c];exact(Vs B p S fs old new w N n b c h).mono fun e w' ⟨g,j,l⟩=>⟨g,fs,j,l,fun k m=> .inl m⟩
end Go.Proofs.YtndhpgciopcncaaGreatDoor
