import Derived.Test.YtndhpgciopcncaaGreatDoorUDisk4
import Derived.Deep.RegionLaw
open Option renaming some → I
open Go.Value (int)
open Go.IntKind (i64)
set_option linter.unusedVariables false
set_option maxHeartbeats 2000000
open Go.Proofs.Tryz
namespace Go.Proofs.YtndhpgciopcncaaGreatDoor
open Go.RowKit
def ye(b a:ByteArray)(f:FS):Bool:=!eqS f.name a&&!eqS f.name b
theorem Jr(l:List FS)(b a:ByteArray):jW (jW l b) a=l.filter (ye b a):=by
 unfold jW;rw[List.filter_filter];rfl
def xM(S:DS)(b a:ByteArray):DS:=if zj S then ze S else YD (ze S) b a
theorem jG{S:DS}{b a:ByteArray}(c:zj S=true):xM S b a=ze S:=by simp[xM,c]
theorem ZS{S:DS}{a c:ByteArray}(d:zj S=false)(b:xC S.files a=none):xM S a c=ze S:=by simp[xM,d,YD,zn,b]
theorem ZT{S:DS}{a b:ByteArray}{i:Nat}(e:zj S=false)(c:xC S.files a=I i)(d:eqS a b=true):xM S a b=ze S:=by simp[xM,e,YD,zn,c,d]
theorem kE{S:DS}{b a:ByteArray}{i:Nat}{f:FS}(g:zj S=false)(c:xC S.files b=I i)(e:S.files[i]?=I f)(d:eqS b a=false):xM S b a={ze S with files:=(ze S).files.filter (ye b a)++[{f with name:=a}]}:=by
 simp[xM,g,YD,zn,c,e,d,Jr]
theorem Qo(B:Nat)(p:Nat)(S:DS)(fs:Value)(d k:ByteArray)(w:World)(N:Nat)(n:N<=1099511627776)(j:DOk S N)(m:zj S=true)(h:zx 111 113 B w p S fs):
  Calls prog 207 #[.pointer (I ⟨p,0,none⟩),.string d,.string k] w fun e w'=>e=.returned (.bool false)/\zx 111 113 B w' p (ze S) fs/\zo (foot p fs) w w':=by
 obtain⟨g,i,hn,b⟩:=j
 have a:=zd (qJ B p S fs w ⟨g,i⟩ h)
 rw[m]at a
 have c:(ze S).files.length<=N:=by rw[zn];exact hn
 clear m b
 go_enter func207,ntmps207
 go_wp2_with(first
  |(go_at_call 197;refine(ud a).mono ?_;rintro e o ⟨rfl,l,f⟩)
  |(go_at_call 198;refine(qW B p (ze S) _ d _ N n c l).mono ?_;rintro e q ⟨rfl,rfl⟩))
 go_ret
 exact⟨rfl,l,f⟩
theorem Jh(B:Nat)(p:Nat)(S:DS)(fs:Value)(a m:ByteArray)(w:World)(N:Nat)(q:N<=1099511627776)(l:DOk S N)(o:zj S=false)(f:xC S.files a=none)(h:zx 111 113 B w p S fs):
  Calls prog 207 #[.pointer (I ⟨p,0,none⟩),.string a,.string m] w fun e w'=>e=.returned (.bool true)/\zx 111 113 B w' p (ze S) fs/\zo (foot p fs) w w':=by
 obtain⟨j,k,hn,c⟩:=l
 have b:=zd (qJ B p S fs w ⟨j,k⟩ h)
 rw[o]at b
 have d:(ze S).files.length<=N:=by rw[zn];exact hn
 have g:Hid (qc (ze S).files a= -1):=by show _=_;simp[qc,zn,f]
 clear f
 clear o c
 go_enter func207,ntmps207
 go_wp2_with(first
  |(go_at_call 197;refine(ud b).mono ?_;rintro e r ⟨rfl,n,i⟩)
  |(go_at_call 198;refine(qW B p (ze S) _ a _ N q d n).mono ?_;rintro e s ⟨rfl,rfl⟩;rw[ud g]))
 go_ret
 exact⟨rfl,n,i⟩
theorem Ji(B:Nat)(p:Nat)(S:DS)(fs:Value)(a b:ByteArray)(w:World)(N:Nat)(s:N<=1099511627776)(n:DOk S N)(r:zj S=false)(i:Nat)(g:xC S.files a=I i)(q:eqS a b=true)(h:zx 111 113 B w p S fs):
  Calls prog 207 #[.pointer (I ⟨p,0,none⟩),.string a,.string b] w fun e w'=>e=.returned (.bool true)/\zx 111 113 B w' p (ze S) fs/\zo (foot p fs) w w':=by
 obtain⟨l,m,hn,d⟩:=n
 have c:=zd (qJ B p S fs w ⟨l,m⟩ h)
 rw[r]at c
 have f:(ze S).files.length<=N:=by rw[zn];exact hn
 have j:Hid (qc (ze S).files a=i):=by show _=_;simp[qc,zn,g]
 have t:(a.toList==b.toList)=true:=q
 have u:¬(i:Int)<0:=by omega
 clear g q
 clear r d
 go_enter func207,ntmps207
 go_wp2_with(first
  |(go_at_call 197;refine(ud c).mono ?_;rintro e v ⟨rfl,o,k⟩)
  |(go_at_call 198;refine(qW B p (ze S) _ a _ N s f o).mono ?_;rintro e x ⟨rfl,rfl⟩;rw[ud j]))
 go_ret
 exact⟨rfl,o,k⟩
theorem zdt(B:Nat)(p:Nat)(S:DS)(fs:Value)(b a:ByteArray)(w:World)(N:Nat)(hN:N<=1099511627776)(a3:DOk S N)(hB:B<=w.1.size)(hs:zj S=false)(i:Nat)(f:FS)(P:xC S.files b=I i)(Y:S.files[i]?=I f)(he:eqS b a=false)(h:zx 111 113 B w p S fs):
  Calls prog 207 #[.pointer (I ⟨p,0,none⟩),.string b,.string a] w fun e w'=>e=.returned (.bool true)/\∃F,zx 111 113 B w' p {ze S with files:=(ze S).files.filter (ye b a)++[{f with name:=a}]} F/\zo (foot p fs) w w'/\∀k,F.ownBlock=I k->fs.ownBlock=I k\/w.1.size<=k:=by
 obtain⟨a0,a1,hn,G⟩:=a3
 have E:=zd (qJ B p S fs w ⟨a0,a1⟩ h)
 rw[hs]at E
 have a9:i<S.files.length:=(List.getElem?_eq_some_iff.1 Y).1
 have aa:(i:Int)<S.files.length:=by omega
 have a7:¬(i:Int)<0:=by omega
 have a8:decide ((i:Int)<0)=false:=by simp
 have a6:(b.toList==a.toList)=false:=he
 have T:Hid (qc (ze S).files b=i):=by show _=_;simp[qc,zn,P]
 have K:(ze S).files[i]?=I f:=by rw[zn];exact Y
 have HF:=zd K
 have L:(ze S).files.length<=N:=by rw[zn];exact hn
 have HL:Hid ((ze S).files.length=S.files.length):=by show _=_;rw[zn]
 obtain⟨g,cap,rfl,-⟩:=h.files (by omega)
 clear hs P K G he h Y
 go_enter func207,ntmps207
 go_wp2_with(first
  |(go_at_call 197;refine(ud E).mono ?_;rintro e w0 ⟨rfl,x,o⟩)
  |(go_at_call 198;refine(qW B p (ze S) _ b _ N hN L x).mono ?_;rintro e c ⟨rfl,rfl⟩;rw[ud T];have U:=x.c0;obtain⟨x0,x1,x2,xf⟩:=x.at (ud HF);clear xf;have ad:=x.lt))
 have V:Below c.1.size c (c.alloc (.cells #[.string a,.string f.data,int i64 f.safe] 113)):=(Below.refl _ _).alloc (Nat.le_refl _) _
 go_loopw [9,11,39] (fun v _ y wr=>∃(k:Nat),k<=S.files.length/\y=int i64 k/\wr.ownsRow (c.1.size+1) 113 3 v (yg (ye b a) (ze S).files k).length (zJ (yg (ye b a) (ze S).files k))/\Below (c.1.size+1) (c.alloc (.cells #[.string a,.string f.data,int i64 f.safe] 113)) wr) (fun _ _ y _=>S.files.length-(intOf y).toNat)
 case atStart=>exact⟨0,Nat.zero_le _,rfl,by rw[XI];exact Yz _ _ _ _,Below.refl _ _⟩
 case round=>
  clear U x0 x1 x2
  obtain⟨k,C,rfl,hv,r⟩:=hrel
  have ab:=Z7 (ye b a) (ze S).files k
  have H:Below c.1.size c wr:=V.trans (r.mono (by omega))
  have R:=x.later H
  have hbs:c.1.size+1<=wr.1.size:=by have:=r.size;rw[kY]at this;exact this
  by_cases a2:k<S.files.length
  ·obtain⟨q,A⟩:=Xv (l:=(ze S).files) (k:=k) (by rw[ud HL];exact a2)
   obtain⟨x0,x1,x2,xf⟩:=R.at A
   have u:=zd A
   have ac:(k:Int)<S.files.length:=by omega
   clear A xf
   cases d:eqS q.name b
   ·cases n:eqS q.name a
    ·have t:(q.name.toList==b.toList)=false:=d
     have J:(q.name.toList==a.toList)=false:=n
     have D:=zd (QB (p:=ye b a) (ud u) (by simp[ye,d,n]))
     clear d n
     go_wp2_with(first
      |(at_builtin;refine XX rfl _ _ rfl (c.1.size+1) _ (yg (ye b a) (ze S).files k) q rfl ((hv.alloc _).alloc _) (wr.1.size+1) rfl (XC _ _ _) ?hll ?hbb ?_;(case hll=>omega);(case hbb=>(rw[jQ];omega));intro g2 a4 w3 m O j W M)
      |fail)
     have X:Below (c.1.size+1) (c.alloc (.cells #[.string a,.string f.data,int i64 f.safe] 113)) w3:=((r.alloc (by omega) _).alloc (by rw[kY];omega) _).grown j (by rw[jQ];omega) (fun k C=>(hv.lt k C).1)
     exact⟨⟨k+1,by omega,by go_num,by rw[ud D];exact m,X⟩,by simp[intOf];omega⟩
    ·have t:(q.name.toList==b.toList)=false:=d
     have J:(q.name.toList==a.toList)=true:=n
     have D:=zd (XH (p:=ye b a) (ud u) (by simp[ye,d,n]))
     clear d n
     go_wp2
     go_roundw
     case rel=>exact⟨k+1,by omega,by go_num,by rw[ud D];exact hv.alloc _,r.alloc (by omega) _⟩
     case measure=>simp[intOf];omega
   ·have t:(q.name.toList==b.toList)=true:=d
    have D:=zd (XH (p:=ye b a) (ud u) (by simp[ye,d]))
    clear d
    go_wp2
    go_roundw
    case rel=>exact⟨k+1,by omega,by go_num,by rw[ud D];exact hv.alloc _,r.alloc (by omega) _⟩
    case measure=>simp[intOf];omega
  ·have e:k=(ze S).files.length:=by rw[ud HL];omega
   have Q:=Zn hv (show B<=c.1.size+1 by have:=o.size;omega)
   have af:=hv.lt
   have hll:((ze S).files.filter (ye b a)).length<=N:=by have:=List.length_filter_le (ye b a) (ze S).files;omega
   rw[e,QA]at hv
   have U:=R.c0
   have ae:=R.lt
   have Z:=R.free 0
   have y0:wr.cell? ⟨c.1.size,0,none⟩=I (.string a):=(r.cell (p:=⟨c.1.size,0,none⟩) (show c.1.size<_ by omega)).trans (by rw[World.cell?_alloc_mark];rfl)
   have y1:wr.cell? ⟨c.1.size,1,none⟩=I (.string f.data):=(r.cell (p:=⟨c.1.size,1,none⟩) (show c.1.size<_ by omega)).trans (by rw[World.cell?_alloc_mark];rfl)
   have y2:wr.cell? ⟨c.1.size,2,none⟩=I (int i64 f.safe):=(r.cell (p:=⟨c.1.size,2,none⟩) (show c.1.size<_ by omega)).trans (by rw[World.cell?_alloc_mark];rfl)
   clear e Q
   go_wp2_with(first
    |(at_builtin;refine XX rfl _ _ rfl (c.1.size+1) _ ((ze S).files.filter (ye b a)) {f with name:=a} rfl (hv.alloc _) wr.1.size rfl (heap_alloc_last _ _) ?hll ?hbb ?_;(case hll=>omega);(case hbb=>(rw[kY];omega));intro g3 a5 w4 m O j W M;have z:Below (c.1.size+1) wr w4:=((Below.refl _ _).alloc (by omega) _).grown j (by rw[kY];omega) (fun k C=>(hv.lt k C).1);have d0:=(z.cell (p:=⟨p,0,none⟩) (show p<_ by omega)).trans U;have d1:=(z.frozen (p:=⟨p,0,none⟩) (show p<_ by omega)).trans Z)
    |fail)
   go_ret
   have s:Below c.1.size c w4:=H.trans (z.mono (by omega))
   obtain⟨hD,hK⟩:=x.setFiles (by decide) (zo.of_below s) (s.block p x.lt) (Zn m (show B<=c.1.size+1 by have:=o.size;omega))
   exact⟨rfl,_,hD,o.trans hK (fun _ _ hh=>hh),fun k C=> .inr (by have:=(m.lt k C).1;have:=o.size;omega)⟩
theorem zbl(B:Nat)(p:Nat)(S:DS)(fs:Value)(a c:ByteArray)(w:World)(N:Nat)(q:N<=1099511627776)(d:DOk S N)(t:B<=w.1.size)(h:zx 111 113 B w p S fs):
  Calls prog 207 #[.pointer (I ⟨p,0,none⟩),.string a,.string c] w fun e w'=>e=.returned (.bool (!zj S))/\∃j,zx 111 113 B w' p (xM S a c) j/\zo (foot p fs) w w'/\∀k,j.ownBlock=I k->fs.ownBlock=I k\/w.1.size<=k:=by
 cases g:zj S
 ·cases b:xC S.files a with
  |none=>
   rw[ZS g b]
   exact(Jh B p S fs a c w N q d g b h).mono fun e w' ⟨l,m,n⟩=>⟨l,fs,m,n,fun k o=> .inl o⟩
  |some i=>
   obtain⟨f,s,_,_⟩:=yj b
   cases r:eqS a c
   ·rw[kE g b s r]
    exact zdt B p S fs a c w N q d t g i f b s r h
   ·rw[ZT g b r]
    exact(Ji B p S fs a c w N q d g i b r h).mono fun e w' ⟨l,m,n⟩=>⟨l,fs,m,n,fun k o=> .inl o⟩
 ·rw[jG g]
  exact(Qo B p S fs a c w N q d g h).mono fun e w' ⟨l,m,n⟩=>⟨l,fs,m,n,fun k o=> .inl o⟩
end Go.Proofs.YtndhpgciopcncaaGreatDoor
