import Derived.Test.YtndhpgciopcncaaGreatDoorYDisk4
import Derived.Deep.RegionLaw
open Option renaming some → I
open Go.Value (int)
open Go.IntKind (i64)
set_option linter.unusedVariables false
set_option maxHeartbeats 2000000
open Go.Proofs.Tryz
namespace Go.Proofs.YtndhpgciopcncaaGreatDoor
open Go.RowKit
def yo(b a:ByteArray)(f:FS):Bool:=!eqS f.name a&&!eqS f.name b
theorem zaV(l:List FS)(b a:ByteArray):Zf (Zf l b) a=l.filter (yo b a):=by
 unfold Zf;rw[List.filter_filter];rfl
def xG(S:DS)(b a:ByteArray):DS:=if zi S then zh S else V8 (zh S) b a
theorem jZ{S:DS}{b a:ByteArray}(c:zi S=true):xG S b a=zh S:=by simp[xG,c]
theorem XO{S:DS}{a c:ByteArray}(d:zi S=false)(b:xv S.files a=none):xG S a c=zh S:=by simp[xG,d,V8,zn,b]
theorem XP{S:DS}{a b:ByteArray}{i:Nat}(e:zi S=false)(c:xv S.files a=I i)(d:eqS a b=true):xG S a b=zh S:=by simp[xG,e,V8,zn,c,d]
theorem kS{S:DS}{b a:ByteArray}{i:Nat}{f:FS}(g:zi S=false)(c:xv S.files b=I i)(e:S.files[i]?=I f)(d:eqS b a=false):xG S b a={zh S with files:=(zh S).files.filter (yo b a)++[{f with name:=a}]}:=by
 simp[xG,g,V8,zn,c,e,d,zaV]
theorem Yx(B:Nat)(p:Nat)(S:DS)(fs:Value)(d k:ByteArray)(w:World)(N:Nat)(n:N<=1099511627776)(j:DOk S N)(m:zi S=true)(h:zv 111 113 B w p S fs):
  Calls prog 207 #[.pointer (I ⟨p,0,none⟩),.string d,.string k] w fun e w'=>e=.returned (.bool false)/\zv 111 113 B w' p (zh S) fs/\zk (foot p fs) w w':=by
 obtain⟨g,i,hn,b⟩:=j
 have a:=zd (qL B p S fs w ⟨g,i⟩ h)
 rw[m]at a
 have c:(zh S).files.length<=N:=by rw[zn];exact hn
 clear m b
 go_enter func207,ntmps207
 go_wp2_with(first
  |(go_at_call 197;refine(ud a).mono ?_;rintro e o ⟨rfl,l,f⟩)
  |(go_at_call 198;refine(qZ B p (zh S) _ d _ N n c l).mono ?_;rintro e q ⟨rfl,rfl⟩))
 go_ret
 exact⟨rfl,l,f⟩
theorem zay(B:Nat)(p:Nat)(S:DS)(fs:Value)(a m:ByteArray)(w:World)(N:Nat)(q:N<=1099511627776)(l:DOk S N)(o:zi S=false)(f:xv S.files a=none)(h:zv 111 113 B w p S fs):
  Calls prog 207 #[.pointer (I ⟨p,0,none⟩),.string a,.string m] w fun e w'=>e=.returned (.bool true)/\zv 111 113 B w' p (zh S) fs/\zk (foot p fs) w w':=by
 obtain⟨j,k,hn,c⟩:=l
 have b:=zd (qL B p S fs w ⟨j,k⟩ h)
 rw[o]at b
 have d:(zh S).files.length<=N:=by rw[zn];exact hn
 have g:Hid (xY (zh S).files a= -1):=by show _=_;simp[xY,zn,f]
 clear f
 clear o c
 go_enter func207,ntmps207
 go_wp2_with(first
  |(go_at_call 197;refine(ud b).mono ?_;rintro e r ⟨rfl,n,i⟩)
  |(go_at_call 198;refine(qZ B p (zh S) _ a _ N q d n).mono ?_;rintro e s ⟨rfl,rfl⟩;rw[ud g]))
 go_ret
 exact⟨rfl,n,i⟩
theorem zaz(B:Nat)(p:Nat)(S:DS)(fs:Value)(a b:ByteArray)(w:World)(N:Nat)(s:N<=1099511627776)(n:DOk S N)(r:zi S=false)(i:Nat)(g:xv S.files a=I i)(q:eqS a b=true)(h:zv 111 113 B w p S fs):
  Calls prog 207 #[.pointer (I ⟨p,0,none⟩),.string a,.string b] w fun e w'=>e=.returned (.bool true)/\zv 111 113 B w' p (zh S) fs/\zk (foot p fs) w w':=by
 obtain⟨l,m,hn,d⟩:=n
 have c:=zd (qL B p S fs w ⟨l,m⟩ h)
 rw[r]at c
 have f:(zh S).files.length<=N:=by rw[zn];exact hn
 have j:Hid (xY (zh S).files a=i):=by show _=_;simp[xY,zn,g]
 have t:(a.toList==b.toList)=true:=q
 have u:¬(i:Int)<0:=by omega
 clear g q
 clear r d
 go_enter func207,ntmps207
 go_wp2_with(first
  |(go_at_call 197;refine(ud c).mono ?_;rintro e v ⟨rfl,o,k⟩)
  |(go_at_call 198;refine(qZ B p (zh S) _ a _ N s f o).mono ?_;rintro e x ⟨rfl,rfl⟩;rw[ud j]))
 go_ret
 exact⟨rfl,o,k⟩
theorem zfd(B:Nat)(p:Nat)(S:DS)(fs:Value)(b a:ByteArray)(w:World)(N:Nat)(hN:N<=1099511627776)(a3:DOk S N)(hB:B<=w.1.size)(hs:zi S=false)(i:Nat)(f:FS)(P:xv S.files b=I i)(Y:S.files[i]?=I f)(he:eqS b a=false)(h:zv 111 113 B w p S fs):
  Calls prog 207 #[.pointer (I ⟨p,0,none⟩),.string b,.string a] w fun e w'=>e=.returned (.bool true)/\∃F,zv 111 113 B w' p {zh S with files:=(zh S).files.filter (yo b a)++[{f with name:=a}]} F/\zk (foot p fs) w w'/\∀k,F.ownBlock=I k->fs.ownBlock=I k\/w.1.size<=k:=by
 obtain⟨a0,a1,hn,G⟩:=a3
 have E:=zd (qL B p S fs w ⟨a0,a1⟩ h)
 rw[hs]at E
 have aa:i<S.files.length:=(List.getElem?_eq_some_iff.1 Y).1
 have ab:(i:Int)<S.files.length:=by omega
 have a8:¬(i:Int)<0:=by omega
 have a9:decide ((i:Int)<0)=false:=by simp
 have a7:(b.toList==a.toList)=false:=he
 have T:Hid (xY (zh S).files b=i):=by show _=_;simp[xY,zn,P]
 have K:(zh S).files[i]?=I f:=by rw[zn];exact Y
 have HF:=zd K
 have L:(zh S).files.length<=N:=by rw[zn];exact hn
 have HL:Hid ((zh S).files.length=S.files.length):=by show _=_;rw[zn]
 obtain⟨g,cap,rfl,-⟩:=h.files (by omega)
 clear hs P K G he h Y
 go_enter func207,ntmps207
 go_wp2_with(first
  |(go_at_call 197;refine(ud E).mono ?_;rintro e w0 ⟨rfl,x,o⟩)
  |(go_at_call 198;refine(qZ B p (zh S) _ b _ N hN L x).mono ?_;rintro e c ⟨rfl,rfl⟩;rw[ud T];have U:=x.c0;obtain⟨x0,x1,x2,xf⟩:=x.at (ud HF);clear xf;have ae:=x.lt))
 have V:Below c.1.size c (c.alloc (.cells #[.string a,.string f.data,int i64 f.safe] 113)):=(Below.refl _ _).alloc (Nat.le_refl _) _
 go_loopw [9,11,39] (fun v _ y wr=>∃(k:Nat),k<=S.files.length/\y=int i64 k/\wr.ownsRow (c.1.size+1) 113 3 v (yr (yo b a) (zh S).files k).length (zK (yr (yo b a) (zh S).files k))/\Below (c.1.size+1) (c.alloc (.cells #[.string a,.string f.data,int i64 f.safe] 113)) wr) (fun _ _ y _=>S.files.length-(intOf y).toNat)
 case atStart=>exact⟨0,Nat.zero_le _,rfl,by rw[QC];exact KS _ _ _ _,Below.refl _ _⟩
 case round=>
  clear U x0 x1 x2
  obtain⟨k,C,rfl,hv,r⟩:=hrel
  have ac:=Zz (yo b a) (zh S).files k
  have H:Below c.1.size c wr:=V.trans (r.mono (by omega))
  have R:=x.later H
  have a6:c.1.size+1<=wr.1.size:=by have:=r.size;rw[vn]at this;exact this
  by_cases a2:k<S.files.length
  ·obtain⟨q,A⟩:=Qs (l:=(zh S).files) (k:=k) (by rw[ud HL];exact a2)
   obtain⟨x0,x1,x2,xf⟩:=R.at A
   have u:=zd A
   have ad:(k:Int)<S.files.length:=by omega
   clear A xf
   cases d:eqS q.name b
   ·cases n:eqS q.name a
    ·have t:(q.name.toList==b.toList)=false:=d
     have J:(q.name.toList==a.toList)=false:=n
     have D:=zd (YQ (p:=yo b a) (ud u) (by simp[yo,d,n]))
     clear d n
     go_wp2_with(first
      |(at_builtin;refine QW rfl _ _ rfl (c.1.size+1) _ (yr (yo b a) (zh S).files k) q rfl ((hv.alloc _).alloc _) (wr.1.size+1) rfl (heap_second _ _ _) ?hll ?hbb ?_;(case hll=>omega);(case hbb=>(rw[Zc];omega));intro g2 a4 w3 m O j W M)
      |fail)
     have X:Below (c.1.size+1) (c.alloc (.cells #[.string a,.string f.data,int i64 f.safe] 113)) w3:=((r.alloc (by omega) _).alloc (by rw[vn];omega) _).grown j (by rw[Zc];omega) (fun k C=>(hv.lt k C).1)
     exact⟨⟨k+1,by omega,by go_num,by rw[ud D];exact m,X⟩,by simp[intOf];omega⟩
    ·have t:(q.name.toList==b.toList)=false:=d
     have J:(q.name.toList==a.toList)=true:=n
     have D:=zd (QB (p:=yo b a) (ud u) (by simp[yo,d,n]))
     clear d n
     go_wp2
     go_roundw
     case rel=>exact⟨k+1,by omega,by go_num,by rw[ud D];exact hv.alloc _,r.alloc (by omega) _⟩
     case measure=>simp[intOf];omega
   ·have t:(q.name.toList==b.toList)=true:=d
    have D:=zd (QB (p:=yo b a) (ud u) (by simp[yo,d]))
    clear d
    go_wp2
    go_roundw
    case rel=>exact⟨k+1,by omega,by go_num,by rw[ud D];exact hv.alloc _,r.alloc (by omega) _⟩
    case measure=>simp[intOf];omega
  ·have e:k=(zh S).files.length:=by rw[ud HL];omega
   have Q:=X6 hv (show B<=c.1.size+1 by have:=o.size;omega)
   have ag:=hv.lt
   have hll:((zh S).files.filter (yo b a)).length<=N:=by have:=List.length_filter_le (yo b a) (zh S).files;omega
   rw[e,YP]at hv
   have U:=R.c0
   have af:=R.lt
   have Z:=R.free 0
   have y0:wr.cell? ⟨c.1.size,0,none⟩=I (.string a):=(r.cell (p:=⟨c.1.size,0,none⟩) (show c.1.size<_ by omega)).trans (by rw[World.cell?_alloc_mark];rfl)
   have y1:wr.cell? ⟨c.1.size,1,none⟩=I (.string f.data):=(r.cell (p:=⟨c.1.size,1,none⟩) (show c.1.size<_ by omega)).trans (by rw[World.cell?_alloc_mark];rfl)
   have y2:wr.cell? ⟨c.1.size,2,none⟩=I (int i64 f.safe):=(r.cell (p:=⟨c.1.size,2,none⟩) (show c.1.size<_ by omega)).trans (by rw[World.cell?_alloc_mark];rfl)
   clear e Q
   go_wp2_with(first
    |(at_builtin;refine QW rfl _ _ rfl (c.1.size+1) _ ((zh S).files.filter (yo b a)) {f with name:=a} rfl (hv.alloc _) wr.1.size rfl (heap_alloc_last _ _) ?hll ?hbb ?_;(case hll=>omega);(case hbb=>(rw[vn];omega));intro g3 a5 w4 m O j W M;have z:Below (c.1.size+1) wr w4:=((Below.refl _ _).alloc (by omega) _).grown j (by rw[vn];omega) (fun k C=>(hv.lt k C).1);have d0:=(z.cell (p:=⟨p,0,none⟩) (show p<_ by omega)).trans U;have d1:=(z.frozen (p:=⟨p,0,none⟩) (show p<_ by omega)).trans Z)
    |fail)
   go_ret
   have s:Below c.1.size c w4:=H.trans (z.mono (by omega))
   obtain⟨hD,hK⟩:=x.setFiles (by decide) (zk.of_below s) (s.block p x.lt) (X6 m (show B<=c.1.size+1 by have:=o.size;omega))
   exact⟨rfl,_,hD,o.trans hK (fun _ _ hh=>hh),fun k C=> .inr (by have:=(m.lt k C).1;have:=o.size;omega)⟩
theorem zde(B:Nat)(p:Nat)(S:DS)(fs:Value)(a c:ByteArray)(w:World)(N:Nat)(q:N<=1099511627776)(d:DOk S N)(t:B<=w.1.size)(h:zv 111 113 B w p S fs):
  Calls prog 207 #[.pointer (I ⟨p,0,none⟩),.string a,.string c] w fun e w'=>e=.returned (.bool (!zi S))/\∃j,zv 111 113 B w' p (xG S a c) j/\zk (foot p fs) w w'/\∀k,j.ownBlock=I k->fs.ownBlock=I k\/w.1.size<=k:=by
 cases g:zi S
 ·cases b:xv S.files a with
  |none=>
   rw[XO g b]
   exact(zay B p S fs a c w N q d g b h).mono fun e w' ⟨l,m,n⟩=>⟨l,fs,m,n,fun k o=> .inl o⟩
  |some i=>
   obtain⟨f,s,_,_⟩:=yw b
   cases r:eqS a c
   ·rw[kS g b s r]
    exact zfd B p S fs a c w N q d t g i f b s r h
   ·rw[XP g b r]
    exact(zaz B p S fs a c w N q d g i b r h).mono fun e w' ⟨l,m,n⟩=>⟨l,fs,m,n,fun k o=> .inl o⟩
 ·rw[jZ g]
  exact(Yx B p S fs a c w N q d g h).mono fun e w' ⟨l,m,n⟩=>⟨l,fs,m,n,fun k o=> .inl o⟩
end Go.Proofs.YtndhpgciopcncaaGreatDoor
