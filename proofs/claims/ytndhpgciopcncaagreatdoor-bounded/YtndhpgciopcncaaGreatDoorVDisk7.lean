import Derived.Test.YtndhpgciopcncaaGreatDoorVDisk6
import Derived.Deep.RegionHeld3
open Option renaming none → I
open Option renaming some → J
open Go renaming World → K
open Go renaming Value → O
open Nat renaming zero_le → E
open Go.Value (int)
open Go.IntKind (i64)
set_option linter.unusedVariables false
set_option maxRecDepth 8000
set_option maxHeartbeats 8000000
open Go.Proofs.Tryz
namespace Go.Proofs.YtndhpgciopcncaaGreatDoor
open Go.RowKit Go.Shelf
def Xd:DS:=⟨[],-1,false⟩
theorem zdw(B:Nat)(w:K)(a:B<=w.1.size):
  Calls prog 38 #[] w fun e w'=>e=.returned (.pointer (J ⟨w.1.size,0,I⟩))/\zx 111 113 B w' w.1.size Xd (.slice I 0 0)/\Below w.1.size w w'/\w'.1.size=w.1.size+1:=by
 go_enter func38,ntmps38
 go_wp2
 go_ret
 exact⟨rfl,⟨heap_alloc_last _ _,a,YL _ _ _ _⟩,(Below.refl _ _).alloc (Nat.le_refl _) _,kY _ _⟩
theorem QA{S:DS}{n:Int}(h:zj S=true):Qk S n=S:=by simp[Qk,h]
theorem zbL{S:DS}{n:Int}(h:zj S=false)(hn:n<0):Qk S n={S with left:= -1}:=by simp[Qk,h,hn]
theorem zbM{S:DS}{n:Int}(h:zj S=false)(hn:¬n<0):Qk S n={S with left:=n}:=by simp[Qk,h,hn]
theorem zkb(B:Nat)(p:Nat)(S:DS)(fs:O)(n:Int)(w:K)(b:zx 111 113 B w p S fs):
  Calls prog 28 #[.pointer (J ⟨p,0,I⟩),int i64 n] w fun e w'=>e=.returned (.tuple #[])/\zx 111 113 B w' p (Qk S n) fs/\zo (foot p fs) w w':=by
 cases c:zj S
 ·by_cases hn:n<0
  ·rw[zbL c hn]
   by_cases i:n= -1
   ·subst i
    have a:=zd (vs B p S fs w b)
    rw[c]at a
    clear c
    go_enter func28,ntmps28
    go_wp2_with(go_at_call 32;refine(ud a).mono ?_;rintro e h ⟨rfl,rfl⟩;have d:=b.c1;have f:=b.free 1)
    go_end0
    exact⟨rfl,b.setLeft (by decide) (-1)⟩
   ·have g:¬ -1<=n:=by omega
    have a:=zd (vs B p S fs w b)
    rw[c]at a
    clear c
    go_enter func28,ntmps28
    go_wp2_with(go_at_call 32;refine(ud a).mono ?_;rintro e h ⟨rfl,rfl⟩;have d:=b.c1;have f:=b.free 1)
    go_end0
    exact⟨rfl,b.setLeft (by decide) (-1)⟩
  ·rw[zbM c hn]
   have g: -1<=n:=by omega
   have a:=zd (vs B p S fs w b)
   rw[c]at a
   clear c
   go_enter func28,ntmps28
   go_wp2_with(go_at_call 32;refine(ud a).mono ?_;rintro e h ⟨rfl,rfl⟩;have d:=b.c1;have f:=b.free 1)
   go_end0
   exact⟨rfl,b.setLeft (by decide) n⟩
 ·rw[QA c]
  have a:=zd (vs B p S fs w b)
  rw[c]at a
  clear c
  go_enter func28,ntmps28
  go_wp2_with(go_at_call 32;refine(ud a).mono ?_;rintro e h ⟨rfl,rfl⟩;have d:=b.c1;have f:=b.free 1)
  go_end0
  exact⟨rfl,b,zo.refl _ _⟩
theorem JQ{a b:ByteArray}(h:a=b):Ending.returned (.string a)=.returned (.string b):=by rw[h]
def yD(S:DS)(a:ByteArray):ByteArray:=match xC S.files a with|some i=>(match S.files[i]? with|some f=>f.data|none=>⟨#[]⟩)|none=>⟨#[]⟩
theorem YP(B:Nat)(p:Nat)(S:DS)(fs:O)(c:ByteArray)(w:K)(N:Nat)(k:N<=1099511627776)(hn:S.files.length<=N)(h:zx 111 113 B w p S fs):
  Calls prog 128 #[.pointer (J ⟨p,0,I⟩),.string c] w fun e w'=>e=.returned (.string (yD S c))/\w'=w:=by
 have b:=zd (qX B p S fs c w N k hn h)
 cases a:xC S.files c with
 |none=>
  have d:qd S.files c= -1:=by simp[qd,a]
  have HR:Hid (yD S c=⟨#[]⟩):=by show _=_;simp[yD,a]
  rw[d]at b
  clear a d
  go_enter func128,ntmps128
  go_wp2_with(go_at_call 198;refine(ud b).mono ?_;rintro e o ⟨rfl,rfl⟩)
  go_ret
  exact⟨JQ (ud HR).symm,rfl⟩
 |some i=>
  obtain⟨f,j,m,_⟩:=ym a
  have d:qd S.files c=i:=by simp[qd,a]
  have HR:Hid (yD S c=f.data):=by show _=_;simp[yD,a,j]
  rw[d]at b
  have n:(i:Int)<S.files.length:=by omega
  have l:¬(i:Int)<0:=by omega
  obtain⟨g,cap,rfl,-⟩:=h.files (by omega)
  have r:=h.c0
  obtain⟨s,t,u,q⟩:=h.at j
  clear a d j q
  go_enter func128,ntmps128
  go_wp2_with(go_at_call 198;refine(ud b).mono ?_;rintro e o ⟨rfl,rfl⟩)
  go_ret
  exact⟨JQ (ud HR).symm,rfl⟩
theorem zhM(B:Nat)(p:Nat)(S:DS)(fs:O)(c:ByteArray)(w:K)(N:Nat)(f:N<=1099511627776)(hn:S.files.length<=N)(h:zx 111 113 B w p S fs):
  Calls prog 205 #[.pointer (J ⟨p,0,I⟩),.string c] w fun e w'=>e=.returned (.bool (xC S.files c).isSome)/\w'=w:=by
 have a:=zd (qX B p S fs c w N f hn h)
 cases b:xC S.files c with
 |none=>
  have d:qd S.files c= -1:=by simp[qd,b]
  rw[d]at a
  clear b d
  go_enter func205,ntmps205
  go_wp2_with(go_at_call 198;refine(ud a).mono ?_;rintro e j ⟨rfl,rfl⟩)
  go_ret
  exact⟨rfl,rfl⟩
 |some i=>
  have d:qd S.files c=i:=by simp[qd,b]
  have g:(0:Int)<=(i:Int):=by omega
  rw[d]at a
  clear b d
  go_enter func205,ntmps205
  go_wp2_with(go_at_call 198;refine(ud a).mono ?_;rintro e j ⟨rfl,rfl⟩)
  go_ret
  exact⟨kg (by simp),rfl⟩
theorem yH{S:DS}{N a:Nat}(h:DOk S N)(b:N<=a):DOk S a:=⟨h.1,h.2.1,Nat.le_trans h.2.2.1 b,fun f c=>⟨(h.2.2.2 f c).1,Nat.le_trans (h.2.2.2 f c).2 b⟩⟩
theorem yX{S:DS}{N:Nat}(h:DOk S N):DOk (zh S) N:=by
 obtain⟨c,d,a,b⟩:=h
 unfold zh
 split
 ·exact⟨c,d,a,b⟩
 ·refine⟨?_,?_,a,b⟩<;>(dsimp only;split<;>omega)
theorem Z9{S:DS}{N a:Nat}(h:DOk S N)(l:List FS)(c:l.length<=a)(b:∀f∈l,f.safe<=f.data.size/\f.data.size<=a):DOk {S with files:=l} a:=⟨h.1,h.2.1,c,b⟩
theorem QV{l:List FS}{i:Nat}{x f:FS}(h:f∈l.set i x):f=x\/f∈l:=by
 rcases List.mem_or_eq_of_mem_set h with h|h
 ·exact .inr h
 ·exact .inl h
theorem kO{S:DS}{N:Nat}(h:DOk S N)(n s:ByteArray):DOk (zB S n s) (N+s.size+1):=by
 cases d:zj S
 ·have b:=yX h
  cases c:xC S.files n with
  |none=>
   rw[qj d c]
   refine Z9 b _ (by simp;have:=b.2.2.1;omega) (fun f a=>?_)
   rcases List.mem_append.1 a with a|a
   ·have:=b.2.2.2 f a;omega
   ·simp at a;subst a;exact⟨E _,by dsimp only;omega⟩
  |some i=>
   obtain⟨g,e,_,_⟩:=ym c
   rw[yy d c e]
   refine Z9 b _ (by simp;have:=b.2.2.1;omega) (fun f a=>?_)
   have j:=b.2.2.2 g (List.mem_of_getElem? (by rw[zp];exact e))
   rcases QV a with rfl|a
   ·dsimp only;rw[ByteArray.size_append];omega
   ·have:=b.2.2.2 f a;omega
 ·rw[k7 d];exact yH (yX h) (by omega)
theorem Xh{S:DS}{N:Nat}(h:DOk S N)(n:ByteArray):DOk (xB S n) (N+1):=by
 cases b:zj S
 ·have c:=yX h
  cases a:xC S.files n with
  |none=>rw[jw b a];exact yH c (by omega)
  |some i=>
   obtain⟨g,d,_,_⟩:=ym a
   rw[qm b a d]
   refine Z9 c _ (by simp;have:=c.2.2.1;omega) (fun f e=>?_)
   have j:=c.2.2.2 g (List.mem_of_getElem? (by rw[zp];exact d))
   rcases QV e with rfl|e
   ·dsimp only;omega
   ·have:=c.2.2.2 f e;omega
 ·rw[kR b];exact yH (yX h) (by omega)
theorem zat{S:DS}{N:Nat}(h:DOk S N)(n:ByteArray):DOk (qe S n) (N+1):=by
 have a:=yX h
 unfold qe
 split
 ·exact yH a (by omega)
 ·refine Z9 a _ (by have:=List.length_filter_le (fun f:FS=>!eqS f.name n) (zh S).files;have:=a.2.2.1;unfold Z8;omega) (fun f b=>?_)
  have:=a.2.2.2 f ((List.mem_filter.1 b).1);omega
def yb:ByteArray:=⟨#[114,101,99,111,114,100,115]⟩
def yQ:ByteArray:=⟨#[114,101,99,111,114,100,115,46,110,101,119]⟩
def yc:ByteArray:=⟨#[111,112,101,110,105,110,103,115]⟩
def nl:ByteArray:=⟨#[10]⟩
abbrev zbS(w:K)(d:Nat)(S:DS)(fs:O):Prop:=zx 111 113 0 w d S fs
def xQ(w:K)(fs a:O):Prop:=∀k,a.ownBlock=J k->fs.ownBlock=J k\/w.1.size<=k
theorem xQ.refl(w:K)(fs:O):xQ w fs fs:=fun _ h=> .inl h
theorem xQ.trans{w e:K}{a b c:O}(h:xQ w a b)(g:w.1.size<=e.1.size)(k:xQ e b c):xQ w a c:=fun i f=>by
 rcases k i f with d|d
 ·exact h i d
 ·exact .inr (Nat.le_trans g d)
theorem ZF{d:Nat}{w c f:K}{a b:O}(g:zo (foot d a) w c)(hn:xQ w a b)(i:zo (foot d b) c f):zo (foot d a) w f:=g.trans i (fun k j e=>by
 rcases e with e|e
 ·exact .inl e
 ·rcases hn k e with h|h
  ·exact .inr h
  ·omega)
structure JAt(w:K)(j d:Nat)(st:Int)(S:DS)(fs:O):Prop where
 head:w.1[j]?=J (.cells #[.pointer (J ⟨d,0,I⟩),int i64 st] 216 (0,0))
 disk:zbS w d S fs
theorem JAt.apart{w:K}{j d:Nat}{st:Int}{S:DS}{fs:O}(h:JAt w j d st S fs):¬foot d fs j:=fun e=>by
 have a:=h.head
 rcases e with e|e
 ·rw[e,h.disk.head]at a;injection a with a;injection a with f b;exact absurd b (by decide)
 ·obtain⟨c,g⟩:=zH h.disk.row e
  rw[g]at a;injection a with a;injection a with f b;exact absurd b (by decide)
theorem JAt.after{w w':K}{j d:Nat}{st:Int}{S S':DS}{fs a:O}(h:JAt w j d st S fs)(b:zbS w' d S' a)(c:zo (foot d fs) w w'):JAt w' j d st S' a:=⟨c.heap h.head h.apart,b⟩
def VP(S:DS)(a:ByteArray):DS:=if zj S then zB S yb (a++nl)else xB (zB S yb (a++nl)) yb
def vB(S:DS)(a:ByteArray):Bool:=!zj S&&!zj (zB S yb (a++nl))
theorem XZ(r:ByteArray):(r++nl).size=r.size+1:=by rw[ByteArray.size_append];rfl
theorem zhV{w:K}{j d:Nat}{st:Int}{S:DS}{fs:O}(h:JAt w j d st S fs)(a:ByteArray)(N:Nat)(C:N+a.size+2<=1099511627776)(n:DOk S N):
  Calls prog 107 #[.pointer (J ⟨j,0,I⟩),.string a] w fun e w'=>e=.returned (.bool (vB S a))/\∃g,JAt w' j d st (VP S a) g/\zo (foot d fs) w w'/\xQ w fs g:=by
 have A:=XZ a
 have q:=zd (ZA 0 d S fs yb (a++nl) w N (by omega) n (by omega) (E _) h.disk)
 have c:=kO n yb (a++nl)
 rw[A]at c
 have x:=fun W g (F:zbS W d (zB S yb (a++nl)) g)=>zd (K7 0 d (zB S yb (a++nl)) g yb W _ (by omega) c F)
 have P:w.cell? ⟨j,0,I⟩=J (.pointer (J ⟨d,0,I⟩)):=by rw[xP h.head];rfl
 have G:=za h.head
 have H:=zd h
 have L:a.size<=1099511627776:=by omega
 unfold VP vB
 generalize s:zB S yb (a++nl)=M at*
 unfold yb nl at q
 unfold yb at x
 cases v:zj S
 ·rw[v]at q
  clear h n c A C s
  go_enter func107,ntmps107
  go_wp2_with(first
   |(go_at_call 126;refine(ud q).mono ?_;rintro e B ⟨rfl,l,f,b,i⟩;have m:=(ud H).after f b;have Q:B.cell? ⟨j,0,I⟩=J (.pointer (J ⟨d,0,I⟩)):=(by rw[xP m.head];rfl);have D:=za m.head;have z:=x B l f;have o:=zd m;have p:=zd b;have k:=zd i;clear m f b i x)
   |(go_at_call 127;refine(ud z).mono ?_;rintro e R ⟨rfl,t,u⟩;have y:=zd t;have r:=zd u;clear t u))
  go_ret
  exact⟨by simp,l,(ud o).after (ud y) (ud r),ZF (ud p) (ud k) (ud r),ud k⟩
 ·rw[v]at q
  clear h n c A C s x
  go_enter func107,ntmps107
  go_wp2_with(go_at_call 126;refine(ud q).mono ?_;rintro e B ⟨rfl,l,f,b,i⟩;have o:=zd ((ud H).after f b);have p:=zd b;have k:=zd i;clear f b i)
  go_ret
  exact⟨by simp,l,ud o,ud p,ud k⟩
def zeO(S:DS):Bool:=(xC S.files yQ).isSome&&zj S
def Kg(S:DS):DS:=if(xC S.files yQ).isSome then qe S yQ else S
def zag(S:DS)(a:ByteArray):DS:=zB (Kg S) yQ (a++nl)
def zbw(S:DS)(a:ByteArray):DS:=xB (zag S a) yQ
def ziu(S:DS)(a:ByteArray):DS:=xO (zbw S a) yQ yb
def zbx(S:DS)(a:ByteArray):DS:=if zeO S then Kg S else if zj (Kg S)then zag S a else if zj (zag S a)then zbw S a else ziu S a
def Qz(S:DS)(a:ByteArray):Bool:=!zeO S&&!zj (Kg S)&&!zj (zag S a)&&!zj (zbw S a)
def zah(S:DS)(a:ByteArray)(st:Int):Int:=if zeO S then st else a.size+1
theorem zeQ{S:DS}{N:Nat}(h:DOk S N):DOk (Kg S) (N+1):=by
 unfold Kg;split
 ·exact zat h _
 ·exact yH h (by omega)
theorem JAt.setStart{w:K}{j d:Nat}{st:Int}{S:DS}{fs:O}(h:JAt w j d st S fs)(n:Int):JAt (w.setCell ⟨j,1,I⟩ (int i64 n)) j d n S fs/\zo (fun k=>k=j) w (w.setCell ⟨j,1,I⟩ (int i64 n)):=by
 have a:zo (fun k=>k=j) w (w.setCell ⟨j,1,I⟩ (int i64 n)):=zo.setCell (f:=fun k=>k=j) (zo.refl _ _) (p:=⟨j,1,I⟩) (fun _=>rfl) _
 exact⟨⟨zka h.head _,h.disk.kept a (fun k b e=>by subst e;exact h.apart b)⟩,a⟩
def vM(j d:Nat)(fs:O)(k:Nat):Prop:=k=j\/foot d fs k
theorem zw{j d:Nat}{w c f:K}{a b:O}(g:zo (vM j d a) w c)(hn:xQ w a b)(i:zo (vM j d b) c f):zo (vM j d a) w f:=g.trans i (fun k l e=>by
 rcases e with e|e|e
 ·exact .inl e
 ·exact .inr (.inl e)
 ·rcases hn k e with h|h
  ·exact .inr (.inr h)
  ·omega)
theorem jf{j d:Nat}{fs:O}{w w':K}(h:zo (foot d fs) w w'):zo (vM j d fs) w w':=h.mono (fun k _ e=> .inr e)
def JEnd(w w':K)(j d:Nat)(fs:O)(b:Int)(S':DS):Prop:=∃a,JAt w' j d b S' a/\zo (vM j d fs) w w'/\xQ w fs a
theorem zdQ{w:K}{j d:Nat}{st:Int}{S:DS}{fs:O}(h:JAt w j d st S fs)(i:ByteArray)(N:Nat)(hN:N+i.size+10<=1099511627776)(a9:DOk S N):
  Calls prog 133 #[.pointer (J ⟨j,0,I⟩),.string i] w fun e w'=>e=.returned (.bool (Qz S i))/\JEnd w w' j d fs (zah S i st) (zbx S i):=by
 have hr:=XZ i
 have a6:=zeQ a9
 have a7:DOk (zag S i) (N+1+(i.size+1)+1):=by rw[<-hr];exact kO a6 _ _
 have aa:DOk (zbw S i) (N+1+(i.size+1)+1+1):=Xh a7 _
 have ae:i.size<=1099511627776:=by omega
 have HH:=zd (zhM 0 d S fs yQ w N (by omega) a9.2.2.1 h.disk)
 have HR:=zd (zbu 0 d S fs yQ w N (by omega) a9 (E _) h.disk)
 have G:=fun W Y (hd:zbS W d (Kg S) Y)=>zd (ZA 0 d (Kg S) Y yQ (i++nl) W _ (by omega) a6 (by omega) (E _) hd)
 have HS:=fun W Y (hd:zbS W d (zag S i) Y)=>zd (K7 0 d (zag S i) Y yQ W _ (by omega) a7 hd)
 have HN:=fun W Y (hd:zbS W d (zbw S i) Y)=>zd (zbv 0 d (zbw S i) Y yQ yb W _ (by omega) aa (E _) hd)
 have E2:Hid (zag S i=zB (Kg S) yQ (i++nl)):=rfl
 have E3:Hid (zbw S i=xB (zag S i) yQ):=rfl
 have E4:Hid (ziu S i=xO (zbw S i) yQ yb):=rfl
 have E1:Hid ((xC S.files yQ).isSome=true->Kg S=qe S yQ):=fun e=>by unfold Kg;rw[if_pos e]
 have E0:Hid ((xC S.files yQ).isSome=false->Kg S=S):=fun e=>by unfold Kg;rw[if_neg (by simp[e])]
 unfold Qz zbx zah zeO
 have c0:w.cell? ⟨j,0,I⟩=J (.pointer (J ⟨d,0,I⟩)):=by rw[xP h.head];rfl
 have ad:=za h.head
 have H:=zd h
 generalize(xC S.files yQ).isSome=hp at*
 generalize Kg S=S1 at*
 generalize zag S i=S2 at*
 generalize zbw S i=S3 at*
 generalize ziu S i=S4 at*
 unfold yQ at HH HR
 unfold yQ nl at G
 unfold yQ at HS
 unfold yQ yb at HN
 clear h a9 a6 a7 aa hr hN
 cases hp
 ·clear HR E1
  cases X:zj S1
  ·cases a4:zj S2
   ·cases a8:zj S3
    ·simp only[X]at G
     simp only[a4]at HS
     simp only[a8]at HN
     have a:JAt w j d st S1 fs:=by rw[ud E0 rfl];exact ud H
     have u:Hid (zo (vM j d fs) w w):=zo.refl _ _
     have b:Hid (xQ w fs fs):=xQ.refl _ _
     obtain⟨c,p⟩:=a.setStart ((i.size:Int)+1)
     have d0:(w.setCell ⟨j,1,I⟩ (int i64 ((i.size:Int)+1))).cell? ⟨j,0,I⟩=J (.pointer (J ⟨d,0,I⟩)):=(by rw[xP c.head];rfl)
     have d1:=Yq a.head 1
     have d2:w.cell? ⟨j,1,I⟩=J (int i64 st):=(by rw[xP a.head];rfl)
     have d3:w.cell? ⟨j,0,I⟩=J (.pointer (J ⟨d,0,I⟩)):=(by rw[xP a.head];rfl)
     have Q:=za a.head
     have R:=za c.head
     have y:=zd c
     have g:=zd (zw (ud u) (ud b) (p.mono (fun k _ e=> .inl e)))
     have x:=G _ _ c.disk
     clear a c p G
     go_enter func133,ntmps133
     go_wp2_with(first
      |(go_at_call 205;refine(ud HH).mono ?_;rintro e w0 ⟨rfl,rfl⟩)
      |(go_at_call 126;refine(ud x).mono ?_;rintro e w3 ⟨rfl,M,o,m,r⟩;have f:=(ud y).after (S':=S2) (by rw[ud E2];exact o) m;have e0:w3.cell? ⟨j,0,I⟩=J (.pointer (J ⟨d,0,I⟩)):=(by rw[xP f.head];rfl);have T:=za f.head;have z:=zd f;have s:=zd (jf (j:=j) m);have n:=zd r;have F:=HS _ _ f.disk;clear f o m r)
      |(go_at_call 127;refine(ud F).mono ?_;rintro e w4 ⟨rfl,v,q⟩;have l:=(ud z).after (S':=S3) (by rw[ud E3];exact v) q;have f0:w4.cell? ⟨j,0,I⟩=J (.pointer (J ⟨d,0,I⟩)):=(by rw[xP l.head];rfl);have Z:=za l.head;have L:=zd l;have A:=zd (jf (j:=j) q);have V:=HN _ _ l.disk;clear l v q)
      |(go_at_call 207;refine(ud V).mono ?_;rintro e w5 ⟨rfl,a3,P,B,U⟩;have a0:=zd ((ud L).after (S':=S4) (by rw[ud E4];exact P) B);have a1:=zd (jf (j:=j) B);have a2:=zd U;clear P B U))
     go_ret
     exact⟨rfl,⟨a3,ud a0,zw (zw (zw (ud g) (ud b) (ud s)) (xQ.trans (ud b) (ud g).size (ud n)) (ud A)) (xQ.trans (ud b) (ud g).size (ud n)) (ud a1),xQ.trans (xQ.trans (ud b) (ud g).size (ud n)) ((zw (zw (ud g) (ud b) (ud s)) (xQ.trans (ud b) (ud g).size (ud n)) (ud A))).size (ud a2)⟩⟩
    ·simp only[X]at G
     simp only[a4]at HS
     simp only[a8]at HN
     have a:JAt w j d st S1 fs:=by rw[ud E0 rfl];exact ud H
     have u:Hid (zo (vM j d fs) w w):=zo.refl _ _
     have b:Hid (xQ w fs fs):=xQ.refl _ _
     obtain⟨c,p⟩:=a.setStart ((i.size:Int)+1)
     have d0:(w.setCell ⟨j,1,I⟩ (int i64 ((i.size:Int)+1))).cell? ⟨j,0,I⟩=J (.pointer (J ⟨d,0,I⟩)):=(by rw[xP c.head];rfl)
     have d1:=Yq a.head 1
     have d2:w.cell? ⟨j,1,I⟩=J (int i64 st):=(by rw[xP a.head];rfl)
     have d3:w.cell? ⟨j,0,I⟩=J (.pointer (J ⟨d,0,I⟩)):=(by rw[xP a.head];rfl)
     have Q:=za a.head
     have R:=za c.head
     have y:=zd c
     have g:=zd (zw (ud u) (ud b) (p.mono (fun k _ e=> .inl e)))
     have x:=G _ _ c.disk
     clear a c p G
     go_enter func133,ntmps133
     go_wp2_with(first
      |(go_at_call 205;refine(ud HH).mono ?_;rintro e w0 ⟨rfl,rfl⟩)
      |(go_at_call 126;refine(ud x).mono ?_;rintro e w3 ⟨rfl,M,o,m,r⟩;have f:=(ud y).after (S':=S2) (by rw[ud E2];exact o) m;have e0:w3.cell? ⟨j,0,I⟩=J (.pointer (J ⟨d,0,I⟩)):=(by rw[xP f.head];rfl);have T:=za f.head;have z:=zd f;have s:=zd (jf (j:=j) m);have n:=zd r;have F:=HS _ _ f.disk;clear f o m r)
      |(go_at_call 127;refine(ud F).mono ?_;rintro e w4 ⟨rfl,v,q⟩;have l:=(ud z).after (S':=S3) (by rw[ud E3];exact v) q;have f0:w4.cell? ⟨j,0,I⟩=J (.pointer (J ⟨d,0,I⟩)):=(by rw[xP l.head];rfl);have Z:=za l.head;have L:=zd l;have A:=zd (jf (j:=j) q);have V:=HN _ _ l.disk;clear l v q)
      |(go_at_call 207;refine(ud V).mono ?_;rintro e w5 ⟨rfl,a3,P,B,U⟩;have a0:=zd ((ud L).after (S':=S4) (by rw[ud E4];exact P) B);have a1:=zd (jf (j:=j) B);have a2:=zd U;clear P B U))
     go_ret
     exact⟨rfl,⟨a3,ud a0,zw (zw (zw (ud g) (ud b) (ud s)) (xQ.trans (ud b) (ud g).size (ud n)) (ud A)) (xQ.trans (ud b) (ud g).size (ud n)) (ud a1),xQ.trans (xQ.trans (ud b) (ud g).size (ud n)) ((zw (zw (ud g) (ud b) (ud s)) (xQ.trans (ud b) (ud g).size (ud n)) (ud A))).size (ud a2)⟩⟩
   ·simp only[X]at G
    simp only[a4]at HS
    have a:JAt w j d st S1 fs:=by rw[ud E0 rfl];exact ud H
    have u:Hid (zo (vM j d fs) w w):=zo.refl _ _
    have b:Hid (xQ w fs fs):=xQ.refl _ _
    obtain⟨c,p⟩:=a.setStart ((i.size:Int)+1)
    have d0:(w.setCell ⟨j,1,I⟩ (int i64 ((i.size:Int)+1))).cell? ⟨j,0,I⟩=J (.pointer (J ⟨d,0,I⟩)):=(by rw[xP c.head];rfl)
    have d1:=Yq a.head 1
    have d2:w.cell? ⟨j,1,I⟩=J (int i64 st):=(by rw[xP a.head];rfl)
    have d3:w.cell? ⟨j,0,I⟩=J (.pointer (J ⟨d,0,I⟩)):=(by rw[xP a.head];rfl)
    have Q:=za a.head
    have R:=za c.head
    have y:=zd c
    have g:=zd (zw (ud u) (ud b) (p.mono (fun k _ e=> .inl e)))
    have x:=G _ _ c.disk
    clear a c p G
    go_enter func133,ntmps133
    go_wp2_with(first
     |(go_at_call 205;refine(ud HH).mono ?_;rintro e w0 ⟨rfl,rfl⟩)
     |(go_at_call 126;refine(ud x).mono ?_;rintro e w3 ⟨rfl,M,o,m,r⟩;have f:=(ud y).after (S':=S2) (by rw[ud E2];exact o) m;have e0:w3.cell? ⟨j,0,I⟩=J (.pointer (J ⟨d,0,I⟩)):=(by rw[xP f.head];rfl);have T:=za f.head;have z:=zd f;have s:=zd (jf (j:=j) m);have n:=zd r;have F:=HS _ _ f.disk;clear f o m r)
     |(go_at_call 127;refine(ud F).mono ?_;rintro e w4 ⟨rfl,v,q⟩;have l:=(ud z).after (S':=S3) (by rw[ud E3];exact v) q;have f0:w4.cell? ⟨j,0,I⟩=J (.pointer (J ⟨d,0,I⟩)):=(by rw[xP l.head];rfl);have Z:=za l.head;have L:=zd l;have A:=zd (jf (j:=j) q);have V:=HN _ _ l.disk;clear l v q))
    go_ret
    exact⟨rfl,⟨M,ud L,(zw (zw (ud g) (ud b) (ud s)) (xQ.trans (ud b) (ud g).size (ud n)) (ud A)),(xQ.trans (ud b) (ud g).size (ud n))⟩⟩
  ·simp only[X]at G
   have a:JAt w j d st S1 fs:=by rw[ud E0 rfl];exact ud H
   have u:Hid (zo (vM j d fs) w w):=zo.refl _ _
   have b:Hid (xQ w fs fs):=xQ.refl _ _
   obtain⟨c,p⟩:=a.setStart ((i.size:Int)+1)
   have d0:(w.setCell ⟨j,1,I⟩ (int i64 ((i.size:Int)+1))).cell? ⟨j,0,I⟩=J (.pointer (J ⟨d,0,I⟩)):=(by rw[xP c.head];rfl)
   have d1:=Yq a.head 1
   have d2:w.cell? ⟨j,1,I⟩=J (int i64 st):=(by rw[xP a.head];rfl)
   have d3:w.cell? ⟨j,0,I⟩=J (.pointer (J ⟨d,0,I⟩)):=(by rw[xP a.head];rfl)
   have Q:=za a.head
   have R:=za c.head
   have y:=zd c
   have g:=zd (zw (ud u) (ud b) (p.mono (fun k _ e=> .inl e)))
   have x:=G _ _ c.disk
   clear a c p G
   go_enter func133,ntmps133
   go_wp2_with(first
    |(go_at_call 205;refine(ud HH).mono ?_;rintro e w0 ⟨rfl,rfl⟩)
    |(go_at_call 126;refine(ud x).mono ?_;rintro e w3 ⟨rfl,M,o,m,r⟩;have f:=(ud y).after (S':=S2) (by rw[ud E2];exact o) m;have e0:w3.cell? ⟨j,0,I⟩=J (.pointer (J ⟨d,0,I⟩)):=(by rw[xP f.head];rfl);have T:=za f.head;have z:=zd f;have s:=zd (jf (j:=j) m);have n:=zd r;have F:=HS _ _ f.disk;clear f o m r))
   go_ret
   exact⟨rfl,⟨M,ud z,(zw (ud g) (ud b) (ud s)),(xQ.trans (ud b) (ud g).size (ud n))⟩⟩
 ·clear E0
  have E5:=zd (ud E1 rfl)
  clear E1
  cases ab:zj S
  ·simp only[ab]at HR
   cases X:zj S1
   ·cases a4:zj S2
    ·cases a8:zj S3
     ·simp only[X]at G
      simp only[a4]at HS
      simp only[a8]at HN
      go_enter func133,ntmps133
      go_wp2_with(first
       |(go_at_call 205;refine(ud HH).mono ?_;rintro e w0 ⟨rfl,rfl⟩)
       |(go_at_call 206;refine(ud HR).mono ?_;rintro e w1 ⟨rfl,a5,C,t,D⟩;have a:=(ud H).after (S':=S1) (by rw[ud E5];exact C) t;have u:=zd (jf (j:=j) t);have b:=zd D;clear C t D;obtain⟨c,p⟩:=a.setStart ((i.size:Int)+1);have d0:(w1.setCell ⟨j,1,I⟩ (int i64 ((i.size:Int)+1))).cell? ⟨j,0,I⟩=J (.pointer (J ⟨d,0,I⟩)):=(by rw[xP c.head];rfl);have d1:=Yq a.head 1;have d2:w1.cell? ⟨j,1,I⟩=J (int i64 st):=(by rw[xP a.head];rfl);have d3:w1.cell? ⟨j,0,I⟩=J (.pointer (J ⟨d,0,I⟩)):=(by rw[xP a.head];rfl);have Q:=za a.head;have R:=za c.head;have y:=zd c;have g:=zd (zw (ud u) (ud b) (p.mono (fun k _ e=> .inl e)));have x:=G _ _ c.disk;clear a c p G)
       |(go_at_call 126;refine(ud x).mono ?_;rintro e w3 ⟨rfl,M,o,m,r⟩;have f:=(ud y).after (S':=S2) (by rw[ud E2];exact o) m;have e0:w3.cell? ⟨j,0,I⟩=J (.pointer (J ⟨d,0,I⟩)):=(by rw[xP f.head];rfl);have T:=za f.head;have z:=zd f;have s:=zd (jf (j:=j) m);have n:=zd r;have F:=HS _ _ f.disk;clear f o m r)
       |(go_at_call 127;refine(ud F).mono ?_;rintro e w4 ⟨rfl,v,q⟩;have l:=(ud z).after (S':=S3) (by rw[ud E3];exact v) q;have f0:w4.cell? ⟨j,0,I⟩=J (.pointer (J ⟨d,0,I⟩)):=(by rw[xP l.head];rfl);have Z:=za l.head;have L:=zd l;have A:=zd (jf (j:=j) q);have V:=HN _ _ l.disk;clear l v q)
       |(go_at_call 207;refine(ud V).mono ?_;rintro e w5 ⟨rfl,a3,P,B,U⟩;have a0:=zd ((ud L).after (S':=S4) (by rw[ud E4];exact P) B);have a1:=zd (jf (j:=j) B);have a2:=zd U;clear P B U))
      go_ret
      exact⟨rfl,⟨a3,ud a0,zw (zw (zw (ud g) (ud b) (ud s)) (xQ.trans (ud b) (ud g).size (ud n)) (ud A)) (xQ.trans (ud b) (ud g).size (ud n)) (ud a1),xQ.trans (xQ.trans (ud b) (ud g).size (ud n)) ((zw (zw (ud g) (ud b) (ud s)) (xQ.trans (ud b) (ud g).size (ud n)) (ud A))).size (ud a2)⟩⟩
     ·simp only[X]at G
      simp only[a4]at HS
      simp only[a8]at HN
      go_enter func133,ntmps133
      go_wp2_with(first
       |(go_at_call 205;refine(ud HH).mono ?_;rintro e w0 ⟨rfl,rfl⟩)
       |(go_at_call 206;refine(ud HR).mono ?_;rintro e w1 ⟨rfl,a5,C,t,D⟩;have a:=(ud H).after (S':=S1) (by rw[ud E5];exact C) t;have u:=zd (jf (j:=j) t);have b:=zd D;clear C t D;obtain⟨c,p⟩:=a.setStart ((i.size:Int)+1);have d0:(w1.setCell ⟨j,1,I⟩ (int i64 ((i.size:Int)+1))).cell? ⟨j,0,I⟩=J (.pointer (J ⟨d,0,I⟩)):=(by rw[xP c.head];rfl);have d1:=Yq a.head 1;have d2:w1.cell? ⟨j,1,I⟩=J (int i64 st):=(by rw[xP a.head];rfl);have d3:w1.cell? ⟨j,0,I⟩=J (.pointer (J ⟨d,0,I⟩)):=(by rw[xP a.head];rfl);have Q:=za a.head;have R:=za c.head;have y:=zd c;have g:=zd (zw (ud u) (ud b) (p.mono (fun k _ e=> .inl e)));have x:=G _ _ c.disk;clear a c p G)
       |(go_at_call 126;refine(ud x).mono ?_;rintro e w3 ⟨rfl,M,o,m,r⟩;have f:=(ud y).after (S':=S2) (by rw[ud E2];exact o) m;have e0:w3.cell? ⟨j,0,I⟩=J (.pointer (J ⟨d,0,I⟩)):=(by rw[xP f.head];rfl);have T:=za f.head;have z:=zd f;have s:=zd (jf (j:=j) m);have n:=zd r;have F:=HS _ _ f.disk;clear f o m r)
       |(go_at_call 127;refine(ud F).mono ?_;rintro e w4 ⟨rfl,v,q⟩;have l:=(ud z).after (S':=S3) (by rw[ud E3];exact v) q;have f0:w4.cell? ⟨j,0,I⟩=J (.pointer (J ⟨d,0,I⟩)):=(by rw[xP l.head];rfl);have Z:=za l.head;have L:=zd l;have A:=zd (jf (j:=j) q);have V:=HN _ _ l.disk;clear l v q)
       |(go_at_call 207;refine(ud V).mono ?_;rintro e w5 ⟨rfl,a3,P,B,U⟩;have a0:=zd ((ud L).after (S':=S4) (by rw[ud E4];exact P) B);have a1:=zd (jf (j:=j) B);have a2:=zd U;clear P B U))
      go_ret
      exact⟨rfl,⟨a3,ud a0,zw (zw (zw (ud g) (ud b) (ud s)) (xQ.trans (ud b) (ud g).size (ud n)) (ud A)) (xQ.trans (ud b) (ud g).size (ud n)) (ud a1),xQ.trans (xQ.trans (ud b) (ud g).size (ud n)) ((zw (zw (ud g) (ud b) (ud s)) (xQ.trans (ud b) (ud g).size (ud n)) (ud A))).size (ud a2)⟩⟩
    ·simp only[X]at G
     simp only[a4]at HS
     go_enter func133,ntmps133
     go_wp2_with(first
      |(go_at_call 205;refine(ud HH).mono ?_;rintro e w0 ⟨rfl,rfl⟩)
      |(go_at_call 206;refine(ud HR).mono ?_;rintro e w1 ⟨rfl,a5,C,t,D⟩;have a:=(ud H).after (S':=S1) (by rw[ud E5];exact C) t;have u:=zd (jf (j:=j) t);have b:=zd D;clear C t D;obtain⟨c,p⟩:=a.setStart ((i.size:Int)+1);have d0:(w1.setCell ⟨j,1,I⟩ (int i64 ((i.size:Int)+1))).cell? ⟨j,0,I⟩=J (.pointer (J ⟨d,0,I⟩)):=(by rw[xP c.head];rfl);have d1:=Yq a.head 1;have d2:w1.cell? ⟨j,1,I⟩=J (int i64 st):=(by rw[xP a.head];rfl);have d3:w1.cell? ⟨j,0,I⟩=J (.pointer (J ⟨d,0,I⟩)):=(by rw[xP a.head];rfl);have Q:=za a.head;have R:=za c.head;have y:=zd c;have g:=zd (zw (ud u) (ud b) (p.mono (fun k _ e=> .inl e)));have x:=G _ _ c.disk;clear a c p G)
      |(go_at_call 126;refine(ud x).mono ?_;rintro e w3 ⟨rfl,M,o,m,r⟩;have f:=(ud y).after (S':=S2) (by rw[ud E2];exact o) m;have e0:w3.cell? ⟨j,0,I⟩=J (.pointer (J ⟨d,0,I⟩)):=(by rw[xP f.head];rfl);have T:=za f.head;have z:=zd f;have s:=zd (jf (j:=j) m);have n:=zd r;have F:=HS _ _ f.disk;clear f o m r)
      |(go_at_call 127;refine(ud F).mono ?_;rintro e w4 ⟨rfl,v,q⟩;have l:=(ud z).after (S':=S3) (by rw[ud E3];exact v) q;have f0:w4.cell? ⟨j,0,I⟩=J (.pointer (J ⟨d,0,I⟩)):=(by rw[xP l.head];rfl);have Z:=za l.head;have L:=zd l;have A:=zd (jf (j:=j) q);have V:=HN _ _ l.disk;clear l v q))
     go_ret
     exact⟨rfl,⟨M,ud L,(zw (zw (ud g) (ud b) (ud s)) (xQ.trans (ud b) (ud g).size (ud n)) (ud A)),(xQ.trans (ud b) (ud g).size (ud n))⟩⟩
   ·simp only[X]at G
    go_enter func133,ntmps133
    go_wp2_with(first
     |(go_at_call 205;refine(ud HH).mono ?_;rintro e w0 ⟨rfl,rfl⟩)
     |(go_at_call 206;refine(ud HR).mono ?_;rintro e w1 ⟨rfl,a5,C,t,D⟩;have a:=(ud H).after (S':=S1) (by rw[ud E5];exact C) t;have u:=zd (jf (j:=j) t);have b:=zd D;clear C t D;obtain⟨c,p⟩:=a.setStart ((i.size:Int)+1);have d0:(w1.setCell ⟨j,1,I⟩ (int i64 ((i.size:Int)+1))).cell? ⟨j,0,I⟩=J (.pointer (J ⟨d,0,I⟩)):=(by rw[xP c.head];rfl);have d1:=Yq a.head 1;have d2:w1.cell? ⟨j,1,I⟩=J (int i64 st):=(by rw[xP a.head];rfl);have d3:w1.cell? ⟨j,0,I⟩=J (.pointer (J ⟨d,0,I⟩)):=(by rw[xP a.head];rfl);have Q:=za a.head;have R:=za c.head;have y:=zd c;have g:=zd (zw (ud u) (ud b) (p.mono (fun k _ e=> .inl e)));have x:=G _ _ c.disk;clear a c p G)
     |(go_at_call 126;refine(ud x).mono ?_;rintro e w3 ⟨rfl,M,o,m,r⟩;have f:=(ud y).after (S':=S2) (by rw[ud E2];exact o) m;have e0:w3.cell? ⟨j,0,I⟩=J (.pointer (J ⟨d,0,I⟩)):=(by rw[xP f.head];rfl);have T:=za f.head;have z:=zd f;have s:=zd (jf (j:=j) m);have n:=zd r;have F:=HS _ _ f.disk;clear f o m r))
    go_ret
    exact⟨rfl,⟨M,ud z,(zw (ud g) (ud b) (ud s)),(xQ.trans (ud b) (ud g).size (ud n))⟩⟩
  ·simp only[ab]at HR
   go_enter func133,ntmps133
   go_wp2_with(first
    |(go_at_call 205;refine(ud HH).mono ?_;rintro e w0 ⟨rfl,rfl⟩)
    |(go_at_call 206;refine(ud HR).mono ?_;rintro e w1 ⟨rfl,a5,C,t,D⟩;have a:=(ud H).after (S':=S1) (by rw[ud E5];exact C) t;have u:=zd (jf (j:=j) t);have b:=zd D;clear C t D;have ac:=zd a;clear a))
   go_ret
   exact⟨rfl,⟨a5,ud ac,ud u,ud b⟩⟩
def YC(S:DS)(st:Int):Bool:=decide (2*st+4096<(yD S yb).size)
theorem Js{S:DS}{N:Nat}(h:DOk S N)(b:ByteArray):(yD S b).size<=N:=by
 unfold yD
 cases c:xC S.files b with
 |none=>exact E _
 |some i=>
  obtain⟨f,a,_,_⟩:=ym c
  simp only[a]
  exact(h.2.2.2 f (List.mem_of_getElem? a)).2
theorem zfP{w:K}{j d:Nat}{st:Int}{S:DS}{fs:O}(h:JAt w j d st S fs)(N:Nat)(k:N<=1099511627776)(a:DOk S N)(f:0<=st/\st<=1099511627776):
  Calls prog 110 #[.pointer (J ⟨j,0,I⟩)] w fun e w'=>e=.returned (.bool (YC S st))/\Below w.1.size w w':=by
 have HR:=fun W (l:Below w.1.size w W)=>zd (YP 0 d S fs yb W N k a.2.2.1 (h.disk.later l))
 have g:=Js a yb
 have p:w.cell? ⟨j,0,I⟩=J (.pointer (J ⟨d,0,I⟩)):=by rw[xP h.head];rfl
 have q:w.cell? ⟨j,1,I⟩=J (int i64 st):=by rw[xP h.head];rfl
 have m:=za h.head
 obtain⟨t,i⟩:∃t,yD S yb=t:=⟨_,rfl⟩
 unfold YC
 rw[i]at g ⊢
 simp only[i]at HR
 unfold yb at HR
 have b:=HR w (Below.refl _ _)
 have c:=HR w.drew (Below.refl _ _).drew
 obtain⟨n,o⟩:=f
 clear h a HR i
 have r:IntKind.i64.wrap (2*st)=2*st:=by rw[IntKind.wrap_i64];omega
 have s:IntKind.i64.wrap (2*st+4096)=2*st+4096:=by rw[IntKind.wrap_i64];omega
 go_enter func110,ntmps110
 go_wp2_with fail
 go_region_held3 (fun w'=>w'.cell? ⟨j,0,I⟩=J (.pointer (J ⟨d,0,I⟩))/\w'.cell? ⟨j,1,I⟩=J (int i64 st)) (go_keep) (first
  |(go_at_call 128;(first|(with_reducible refine(ud b).mono ?_)|(with_reducible refine(ud c).mono ?_));rintro e V ⟨rfl,rfl⟩))
 all_goals go_wp2_with fail
 all_goals go_ret
 all_goals exact⟨by simp,(Below.refl _ _).drew⟩
def Kf:ByteArray:=⟨#[43]⟩
def Qq(S:DS):DS:=if zj S then zB S yc Kf else xB (zB S yc Kf) yc
def VV(S:DS):Bool:=!zj S&&!zj (zB S yc Kf)
def zco(S:DS):Int:=if VV S then(yD (xB (zB S yc Kf) yc) yc).size else 0
theorem zcp{w:K}{d:Nat}{S:DS}{fs:O}(h:zbS w d S fs)(N:Nat)(Q:N+10<=1099511627776)(v:DOk S N):
  Calls prog 66 #[.pointer (J ⟨d,0,I⟩)] w fun e w'=>e=.returned (.tuple #[int i64 (zco S),.bool (VV S)])/\∃a,zbS w' d (Qq S) a/\zo (foot d fs) w w'/\xQ w fs a:=by
 have L:Kf.size=1:=rfl
 have p:=zd (ZA 0 d S fs yc Kf w N (by omega) v (by omega) (E _) h)
 have m:DOk (zB S yc Kf) (N+1+1):=by have:=kO v yc Kf;rwa[L]at this
 have n:DOk (xB (zB S yc Kf) yc) (N+1+1+1):=Xh m _
 have s:=fun W a (F:zbS W d (zB S yc Kf) a)=>zd (K7 0 d (zB S yc Kf) a yc W _ (by omega) m F)
 have HR:=fun W a (F:zbS W d (xB (zB S yc Kf) yc) a)=>zd (YP 0 d (xB (zB S yc Kf) yc) a yc W _ (by omega) n.2.2.1 F)
 have z:=Js n yc
 unfold zco VV Qq
 generalize zB S yc Kf=H at*
 obtain⟨D,o⟩:∃D,xB H yc=D:=⟨_,rfl⟩
 have P:=zd o
 rw[o]at z ⊢
 simp only[o]at HR s
 obtain⟨t,G⟩:∃t,yD D yc=t:=⟨_,rfl⟩
 rw[G]at z ⊢
 simp only[G]at HR
 unfold yc Kf at p
 unfold yc at HR s
 clear v m n L G o
 cases x:zj S
 ·cases y:zj H
  ·simp only[x]at p
   simp only[y]at s
   clear h
   go_enter func66,ntmps66
   go_wp2_with(first
    |(go_at_call 126;refine(ud p).mono ?_;rintro e A ⟨rfl,b,c,f,g⟩;have u:=s A b c;have k:=zd f;have i:=zd g;clear c f g)
    |(go_at_call 127;refine(ud u).mono ?_;rintro e M ⟨rfl,j,l⟩;have C:=HR M b j;have q:=zd j;have r:=zd l;clear j l)
    |(go_at_call 128;refine(ud C).mono ?_;rintro e R ⟨rfl,rfl⟩))
   go_ret2
   exact⟨rfl,b,ud q,ZF (ud k) (ud i) (ud r),ud i⟩
  ·simp only[x]at p
   simp only[y]at s
   clear h HR
   go_enter func66,ntmps66
   go_wp2_with(first
    |(go_at_call 126;refine(ud p).mono ?_;rintro e A ⟨rfl,b,c,f,g⟩;have u:=s A b c;have k:=zd f;have i:=zd g;clear c f g)
    |(go_at_call 127;refine(ud u).mono ?_;rintro e M ⟨rfl,j,l⟩;have q:=zd j;have r:=zd l;clear j l))
   go_ret2
   exact⟨rfl,b,ud q,ZF (ud k) (ud i) (ud r),ud i⟩
 ·simp only[x]at p
  clear h HR s
  go_enter func66,ntmps66
  go_wp2_with(first
   |(go_at_call 126;refine(ud p).mono ?_;rintro e A ⟨rfl,b,c,f,g⟩;have B:=zd c;have k:=zd f;have i:=zd g;clear c f g))
  go_ret2
  exact⟨rfl,b,ud B,ud k,ud i⟩
def zgO(t:ByteArray):Nat:=(Lib.lastIndexByte t 10+1).toNat
theorem zhA(t:ByteArray):Lib.lastIndexByte t 10=(zgO t:Int)-1/\zgO t<=t.size:=by
 unfold zgO Lib.lastIndexByte
 rcases Lib.lastIdx_spec t 10 t.size with⟨h,-⟩|⟨i,a,h,-⟩
 ·rw[h];exact⟨rfl,E _⟩
 ·rw[h];constructor<;>omega
theorem zjD(s:ByteArray)(a:s.size<=1099511627776)(w:K):Calls prog 132 #[.string s,.int .u8 10] w fun e w'=>e=.returned (int i64 (Lib.lastIndexByte s 10))/\w'=w:=
 Any.strings_LastIndexByte Tryz.layLI s 10 (by omega) w
theorem zdq(s:ByteArray)(w:K):Calls prog 131 #[.string s] w fun e w'=>e=.returned (.func (.func 202) #[] #[.pointer (J ⟨w.1.size,0,I⟩)])/\w'=w.alloc (.cells #[.string s] 9):=by
 go_enter func131,ntmps131
 go_wp2_with fail
 go_ret
 exact⟨rfl,rfl⟩
theorem Jt{w:K}{d:Nat}{S:DS}{fs:O}(h:zbS w d S fs)(N:Nat)(g:N<=1099511627776)(a:DOk S N):
  Calls prog 72 #[.pointer (J ⟨d,0,I⟩)] w fun e w'=>e=.returned (.func (.func 202) #[] #[.pointer (J ⟨w.1.size,0,I⟩)])/\w'=w.alloc (.cells #[.string ((yD S yb).extract 0 (zgO (yD S yb)))] 9):=by
 have HR:=zd (YP 0 d S fs yb w N g a.2.2.1 h)
 have i:=Js a yb
 generalize yD S yb=t at*
 obtain⟨c,k⟩:=zhA t
 have b:=zd (zjD t (by omega) w)
 rw[c]at b
 generalize zgO t=n at*
 have f:=zd (zdq (t.extract 0 n) w)
 unfold yb at HR
 clear h a c
 have j:((n:Int)-1+1)=n:=by omega
 go_enter func72,ntmps72
 go_wp2_with(first
  |(go_at_call 128;refine(ud HR).mono ?_;rintro e l ⟨rfl,rfl⟩)
  |(go_at_call 132;refine(ud b).mono ?_;rintro e m ⟨rfl,rfl⟩)
  |(go_at_call 131;refine(ud f).mono ?_;rintro e o ⟨rfl,rfl⟩))
 go_ret
 exact⟨rfl,rfl⟩
def yB(e:Nat):ByteArray:=⟨Array.replicate e 43⟩
theorem zbo(e:Nat):(yB e).size=e:=by simp[yB,ByteArray.size]
def jS(e:Nat)(txt:ByteArray):DS:=⟨[⟨yc,yB e,e⟩,⟨yb,txt,txt.size⟩],-1,false⟩
def jS0(e:Nat):DS:=⟨[⟨yc,yB e,e⟩],-1,false⟩
theorem bl(a:Array UInt8):(⟨a⟩:ByteArray).toList=a.toList:=by rw[ByteArray.toList_eq]
theorem ZD(a:ByteArray):eqS a a=true:=by simp[eqS]
theorem zfn:eqS yc yb=false:=by simp[eqS,yc,yb,bl]
theorem zaJ:eqS yc yQ=false:=by simp[eqS,yc,yQ,bl]
theorem zjv:eqS yb yQ=false:=by simp[eqS,yb,yQ,bl]
theorem zju:eqS yQ yb=false:=by simp[eqS,yb,yQ,bl]
theorem yp{S:DS}(h:S.left= -1)(a:S.down=false):zj S=false/\zh S=S:=by
 have b:zj S=false:=by unfold zj;rw[h,a];rfl
 refine⟨b,?_⟩
 obtain⟨f,l,d⟩:=S
 dsimp only at h a
 subst h a
 unfold zh;rw[b];rfl
theorem Q9(e:Nat)(txt:ByteArray)(k:Nat)(r:List FS):xC (⟨yc,yB e,e⟩::⟨yb,txt,k⟩::r) yb=J 1:=by
 unfold xC xc xc;rw[zfn,ZD];rfl
theorem Jq(e:Nat)(txt:ByteArray)(k:Nat):xC [⟨yc,yB e,e⟩,⟨yb,txt,k⟩] yQ=I:=by
 unfold xC xc xc xc;rw[zaJ,zjv];rfl
theorem Vf(e:Nat)(txt t2:ByteArray)(k a:Nat):xC [⟨yc,yB e,e⟩,⟨yb,txt,k⟩,⟨yQ,t2,a⟩] yQ=J 2:=by
 unfold xC xc xc xc;rw[zaJ,zjv,ZD];rfl
theorem Vg(e:Nat):xC [⟨yc,yB e,e⟩] yQ=I:=by
 unfold xC xc xc;rw[zaJ];rfl
theorem Vh(e:Nat):xC [⟨yc,yB e,e⟩] yb=I:=by
 unfold xC xc xc;rw[zfn];rfl
theorem Y5(e:Nat)(t2:ByteArray)(a:Nat):xC [⟨yc,yB e,e⟩,⟨yQ,t2,a⟩] yQ=J 1:=by
 unfold xC xc xc;rw[zaJ,ZD];rfl
theorem zis(e:Nat)(txt:ByteArray):yD (jS e txt) yb=txt:=by unfold yD jS;rw[Q9];rfl
theorem zgg(e:Nat):yD (jS0 e) yb=⟨#[]⟩:=by unfold yD jS0;rw[Vh]
theorem zjh{e N:Nat}{txt:ByteArray}(b:e<=N)(c:txt.size<=N)(d:2<=N):DOk (jS e txt) N:=by
 refine⟨by show(-1:Int)<= -1;omega,by show(-1:Int)<=9223372036854775807;omega,d,fun f a=>?_⟩
 simp only[jS,List.mem_cons,List.not_mem_nil,or_false]at a
 rcases a with rfl|rfl
 ·rw[zbo];exact⟨Nat.le_refl _,b⟩
 ·exact⟨Nat.le_refl _,c⟩
theorem zgX(e:Nat)(txt a:ByteArray):VP (jS e txt) a=jS e (txt++(a++nl))/\vB (jS e txt) a=true:=by
 obtain⟨c,g⟩:=yp (S:=jS e txt) rfl rfl
 have h:zB (jS e txt) yb (a++nl)=⟨[⟨yc,yB e,e⟩,⟨yb,txt++(a++nl),txt.size⟩],-1,false⟩:=by
  rw[yy (i:=1) (f:=⟨yb,txt,txt.size⟩) c (Q9 e txt txt.size []) rfl,g];rfl
 obtain⟨b,d⟩:=yp (S:=⟨[⟨yc,yB e,e⟩,⟨yb,txt++(a++nl),txt.size⟩],-1,false⟩) rfl rfl
 unfold VP vB
 rw[c,h,b]
 refine⟨?_,rfl⟩
 simp only[Bool.false_eq_true,if_false]
 rw[qm (i:=1) (f:=⟨yb,txt++(a++nl),txt.size⟩) b (Q9 e (txt++(a++nl)) txt.size []) rfl,d];rfl
theorem zjO(e:Nat)(txt a:ByteArray):zbx (jS e txt) a=jS e (a++nl)/\Qz (jS e txt) a=true/\zeO (jS e txt)=false:=by
 have b:xC (jS e txt).files yQ=I:=Jq e txt txt.size
 have p:zeO (jS e txt)=false:=by unfold zeO;rw[b];rfl
 have h:Kg (jS e txt)=jS e txt:=by unfold Kg;rw[b];rfl
 obtain⟨c,l⟩:=yp (S:=jS e txt) rfl rfl
 have j:zag (jS e txt) a=⟨[⟨yc,yB e,e⟩,⟨yb,txt,txt.size⟩,⟨yQ,a++nl,0⟩],-1,false⟩:=by
  unfold zag;rw[h,qj c b,l];rfl
 obtain⟨d,m⟩:=yp (S:=⟨[⟨yc,yB e,e⟩,⟨yb,txt,txt.size⟩,⟨yQ,a++nl,0⟩],-1,false⟩) rfl rfl
 have k:zbw (jS e txt) a=⟨[⟨yc,yB e,e⟩,⟨yb,txt,txt.size⟩,⟨yQ,a++nl,(a++nl).size⟩],-1,false⟩:=by
  unfold zbw;rw[j,qm (i:=2) (f:=⟨yQ,a++nl,0⟩) d (Vf e txt _ _ _) rfl,m];rfl
 obtain⟨g,n⟩:=yp (S:=⟨[⟨yc,yB e,e⟩,⟨yb,txt,txt.size⟩,⟨yQ,a++nl,(a++nl).size⟩],-1,false⟩) rfl rfl
 have o:ziu (jS e txt) a=jS e (a++nl):=by
  unfold ziu
  rw[k,kE (i:=2) (f:=⟨yQ,a++nl,(a++nl).size⟩) g (Vf e txt _ _ _) rfl zju,n]
  simp[yg,zfn,zaJ,ZD,jS]
 unfold zbx Qz
 rw[p,h,j,k,c,d,g,o]
 exact⟨rfl,rfl,rfl⟩
theorem zdR(e:Nat)(a:ByteArray):zbx (jS0 e) a=jS e (a++nl)/\Qz (jS0 e) a=true/\zeO (jS0 e)=false:=by
 have b:xC (jS0 e).files yQ=I:=Vg e
 have p:zeO (jS0 e)=false:=by unfold zeO;rw[b];rfl
 have h:Kg (jS0 e)=jS0 e:=by unfold Kg;rw[b];rfl
 obtain⟨c,l⟩:=yp (S:=jS0 e) rfl rfl
 have j:zag (jS0 e) a=⟨[⟨yc,yB e,e⟩,⟨yQ,a++nl,0⟩],-1,false⟩:=by
  unfold zag;rw[h,qj c b,l];rfl
 obtain⟨d,m⟩:=yp (S:=⟨[⟨yc,yB e,e⟩,⟨yQ,a++nl,0⟩],-1,false⟩) rfl rfl
 have k:zbw (jS0 e) a=⟨[⟨yc,yB e,e⟩,⟨yQ,a++nl,(a++nl).size⟩],-1,false⟩:=by
  unfold zbw;rw[j,qm (i:=1) (f:=⟨yQ,a++nl,0⟩) d (Y5 e _ _) rfl,m];rfl
 obtain⟨g,n⟩:=yp (S:=⟨[⟨yc,yB e,e⟩,⟨yQ,a++nl,(a++nl).size⟩],-1,false⟩) rfl rfl
 have o:ziu (jS0 e) a=jS e (a++nl):=by
  unfold ziu
  rw[k,kE (i:=1) (f:=⟨yQ,a++nl,(a++nl).size⟩) g (Y5 e _ _) rfl zju,n]
  simp[yg,zfn,zaJ,ZD,jS]
 unfold zbx Qz
 rw[p,h,j,k,c,d,g,o]
 exact⟨rfl,rfl,rfl⟩
theorem zho:Qq Xd=jS0 1/\VV Xd=true/\zco Xd=1:=by
 obtain⟨a,h⟩:=yp (S:=Xd) rfl rfl
 have b:zB Xd yc Kf=⟨[⟨yc,yB 1,0⟩],-1,false⟩:=by
  rw[qj a rfl,h];rfl
 obtain⟨c,j⟩:=yp (S:=⟨[⟨yc,yB 1,0⟩],-1,false⟩) rfl rfl
 have g:∀k,xC [⟨yc,yB 1,k⟩] yc=J 0:=fun k=>by unfold xC xc;rw[ZD];rfl
 have d:xB ⟨[⟨yc,yB 1,0⟩],-1,false⟩ yc=jS0 1:=by
  rw[qm (i:=0) (f:=⟨yc,yB 1,0⟩) c (g 0) rfl,j];rfl
 have e:VV Xd=true:=by unfold VV;rw[b,a,c];rfl
 refine⟨by unfold Qq;rw[a,b,d];rfl,e,?_⟩
 unfold zco
 rw[e,b,d]
 unfold yD jS0
 rw[g 1]
 rfl
end Go.Proofs.YtndhpgciopcncaaGreatDoor
