import Derived.Test.YtndhpgciopcncaaGreatDoorUDisk6
import Derived.Deep.RegionHeld3
open Option renaming none → I
open Option renaming some → J
open Go renaming World → K
open Go renaming Value → O
open Nat renaming zero_le → E
open Go.Value (int)
open Go.IntKind (i64)
set_option linter.unusedVariables false
set_option maxRecDepth 8000
set_option maxHeartbeats 8000000
open Go.Proofs.Tryz
namespace Go.Proofs.YtndhpgciopcncaaGreatDoor
open Go.RowKit Go.Shelf
def ZV:DS:=⟨[],-1,false⟩
theorem zda(B:Nat)(w:K)(a:B<=w.1.size):
  Calls prog 38 #[] w fun e w'=>e=.returned (.pointer (J ⟨w.1.size,0,I⟩))/\zx 111 113 B w' w.1.size ZV (.slice I 0 0)/\Below w.1.size w w'/\w'.1.size=w.1.size+1:=by
 go_enter func38,ntmps38
 go_wp2
 go_ret
 exact⟨rfl,⟨heap_alloc_last _ _,a,Yz _ _ _ _⟩,(Below.refl _ _).alloc (Nat.le_refl _) _,kY _ _⟩
theorem JE{a b:ByteArray}(h:a=b):Ending.returned (.string a)=.returned (.string b):=by rw[h]
def yC(S:DS)(a:ByteArray):ByteArray:=match xC S.files a with|some i=>(match S.files[i]? with|some f=>f.data|none=>⟨#[]⟩)|none=>⟨#[]⟩
theorem YC(B:Nat)(p:Nat)(S:DS)(fs:O)(c:ByteArray)(w:K)(N:Nat)(k:N<=1099511627776)(hn:S.files.length<=N)(h:zx 111 113 B w p S fs):
  Calls prog 128 #[.pointer (J ⟨p,0,I⟩),.string c] w fun e w'=>e=.returned (.string (yC S c))/\w'=w:=by
 have b:=zd (qW B p S fs c w N k hn h)
 cases a:xC S.files c with
 |none=>
  have d:qc S.files c= -1:=by simp[qc,a]
  have HR:Hid (yC S c=⟨#[]⟩):=by show _=_;simp[yC,a]
  rw[d]at b
  clear a d
  go_enter func128,ntmps128
  go_wp2_with(go_at_call 198;refine(ud b).mono ?_;rintro e o ⟨rfl,rfl⟩)
  go_ret
  exact⟨JE (ud HR).symm,rfl⟩
 |some i=>
  obtain⟨f,j,m,_⟩:=yj a
  have d:qc S.files c=i:=by simp[qc,a]
  have HR:Hid (yC S c=f.data):=by show _=_;simp[yC,a,j]
  rw[d]at b
  have n:(i:Int)<S.files.length:=by omega
  have l:¬(i:Int)<0:=by omega
  obtain⟨g,cap,rfl,-⟩:=h.files (by omega)
  have r:=h.c0
  obtain⟨s,t,u,q⟩:=h.at j
  clear a d j q
  go_enter func128,ntmps128
  go_wp2_with(go_at_call 198;refine(ud b).mono ?_;rintro e o ⟨rfl,rfl⟩)
  go_ret
  exact⟨JE (ud HR).symm,rfl⟩
theorem zhf(B:Nat)(p:Nat)(S:DS)(fs:O)(c:ByteArray)(w:K)(N:Nat)(f:N<=1099511627776)(hn:S.files.length<=N)(h:zx 111 113 B w p S fs):
  Calls prog 205 #[.pointer (J ⟨p,0,I⟩),.string c] w fun e w'=>e=.returned (.bool (xC S.files c).isSome)/\w'=w:=by
 have a:=zd (qW B p S fs c w N f hn h)
 cases b:xC S.files c with
 |none=>
  have d:qc S.files c= -1:=by simp[qc,b]
  rw[d]at a
  clear b d
  go_enter func205,ntmps205
  go_wp2_with(go_at_call 198;refine(ud a).mono ?_;rintro e j ⟨rfl,rfl⟩)
  go_ret
  exact⟨rfl,rfl⟩
 |some i=>
  have d:qc S.files c=i:=by simp[qc,b]
  have g:(0:Int)<=(i:Int):=by omega
  rw[d]at a
  clear b d
  go_enter func205,ntmps205
  go_wp2_with(go_at_call 198;refine(ud a).mono ?_;rintro e j ⟨rfl,rfl⟩)
  go_ret
  exact⟨vL (by simp),rfl⟩
theorem yH{S:DS}{N a:Nat}(h:DOk S N)(b:N<=a):DOk S a:=⟨h.1,h.2.1,Nat.le_trans h.2.2.1 b,fun f c=>⟨(h.2.2.2 f c).1,Nat.le_trans (h.2.2.2 f c).2 b⟩⟩
theorem yX{S:DS}{N:Nat}(h:DOk S N):DOk (ze S) N:=by
 obtain⟨c,d,a,b⟩:=h
 unfold ze
 split
 ·exact⟨c,d,a,b⟩
 ·refine⟨?_,?_,a,b⟩<;>(dsimp only;split<;>omega)
theorem jX{S:DS}{N a:Nat}(h:DOk S N)(l:List FS)(c:l.length<=a)(b:∀f∈l,f.safe<=f.data.size/\f.data.size<=a):DOk {S with files:=l} a:=⟨h.1,h.2.1,c,b⟩
theorem QI{l:List FS}{i:Nat}{x f:FS}(h:f∈l.set i x):f=x\/f∈l:=by
 rcases List.mem_or_eq_of_mem_set h with h|h
 ·exact .inr h
 ·exact .inl h
theorem kM{S:DS}{N:Nat}(h:DOk S N)(n s:ByteArray):DOk (zD S n s) (N+s.size+1):=by
 cases d:zj S
 ·have b:=yX h
  cases c:xC S.files n with
  |none=>
   rw[qj d c]
   refine jX b _ (by simp;have:=b.2.2.1;omega) (fun f a=>?_)
   rcases List.mem_append.1 a with a|a
   ·have:=b.2.2.2 f a;omega
   ·simp at a;subst a;exact⟨E _,by dsimp only;omega⟩
  |some i=>
   obtain⟨g,e,_,_⟩:=yj c
   rw[yx d c e]
   refine jX b _ (by simp;have:=b.2.2.1;omega) (fun f a=>?_)
   have j:=b.2.2.2 g (List.mem_of_getElem? (by rw[zn];exact e))
   rcases QI a with rfl|a
   ·dsimp only;rw[ByteArray.size_append];omega
   ·have:=b.2.2.2 f a;omega
 ·rw[k7 d];exact yH (yX h) (by omega)
theorem ZZ{S:DS}{N:Nat}(h:DOk S N)(n:ByteArray):DOk (xA S n) (N+1):=by
 cases b:zj S
 ·have c:=yX h
  cases a:xC S.files n with
  |none=>rw[jp b a];exact yH c (by omega)
  |some i=>
   obtain⟨g,d,_,_⟩:=yj a
   rw[qm b a d]
   refine jX c _ (by simp;have:=c.2.2.1;omega) (fun f e=>?_)
   have j:=c.2.2.2 g (List.mem_of_getElem? (by rw[zn];exact d))
   rcases QI e with rfl|e
   ·dsimp only;omega
   ·have:=c.2.2.2 f e;omega
 ·rw[kP b];exact yH (yX h) (by omega)
theorem zai{S:DS}{N:Nat}(h:DOk S N)(n:ByteArray):DOk (qe S n) (N+1):=by
 have a:=yX h
 unfold qe
 split
 ·exact yH a (by omega)
 ·refine jX a _ (by have:=List.length_filter_le (fun f:FS=>!eqS f.name n) (ze S).files;have:=a.2.2.1;unfold jW;omega) (fun f b=>?_)
  have:=a.2.2.2 f ((List.mem_filter.1 b).1);omega
def yc:ByteArray:=⟨#[114,101,99,111,114,100,115]⟩
def yR:ByteArray:=⟨#[114,101,99,111,114,100,115,46,110,101,119]⟩
def yd:ByteArray:=⟨#[111,112,101,110,105,110,103,115]⟩
def nl:ByteArray:=⟨#[10]⟩
abbrev zbG(w:K)(d:Nat)(S:DS)(fs:O):Prop:=zx 111 113 0 w d S fs
def xO(w:K)(fs a:O):Prop:=∀k,a.ownBlock=J k->fs.ownBlock=J k\/w.1.size<=k
theorem xO.refl(w:K)(fs:O):xO w fs fs:=fun _ h=> .inl h
theorem xO.trans{w e:K}{a b c:O}(h:xO w a b)(g:w.1.size<=e.1.size)(k:xO e b c):xO w a c:=fun i f=>by
 rcases k i f with d|d
 ·exact h i d
 ·exact .inr (Nat.le_trans g d)
theorem Zq{d:Nat}{w c f:K}{a b:O}(g:zo (foot d a) w c)(hn:xO w a b)(i:zo (foot d b) c f):zo (foot d a) w f:=g.trans i (fun k j e=>by
 rcases e with e|e
 ·exact .inl e
 ·rcases hn k e with h|h
  ·exact .inr h
  ·omega)
structure JAt(w:K)(j d:Nat)(st:Int)(S:DS)(fs:O):Prop where
 head:w.1[j]?=J (.cells #[.pointer (J ⟨d,0,I⟩),int i64 st] 216 (0,0))
 disk:zbG w d S fs
theorem JAt.apart{w:K}{j d:Nat}{st:Int}{S:DS}{fs:O}(h:JAt w j d st S fs):¬foot d fs j:=fun e=>by
 have a:=h.head
 rcases e with e|e
 ·rw[e,h.disk.head]at a;injection a with a;injection a with f b;exact absurd b (by decide)
 ·obtain⟨c,g⟩:=zG h.disk.row e
  rw[g]at a;injection a with a;injection a with f b;exact absurd b (by decide)
theorem JAt.after{w w':K}{j d:Nat}{st:Int}{S S':DS}{fs a:O}(h:JAt w j d st S fs)(b:zbG w' d S' a)(c:zo (foot d fs) w w'):JAt w' j d st S' a:=⟨c.heap h.head h.apart,b⟩
def VF(S:DS)(a:ByteArray):DS:=if zj S then zD S yc (a++nl)else xA (zD S yc (a++nl)) yc
def vw(S:DS)(a:ByteArray):Bool:=!zj S&&!zj (zD S yc (a++nl))
theorem XQ(r:ByteArray):(r++nl).size=r.size+1:=by rw[ByteArray.size_append];rfl
theorem zhp{w:K}{j d:Nat}{st:Int}{S:DS}{fs:O}(h:JAt w j d st S fs)(a:ByteArray)(N:Nat)(C:N+a.size+2<=1099511627776)(n:DOk S N):
  Calls prog 107 #[.pointer (J ⟨j,0,I⟩),.string a] w fun e w'=>e=.returned (.bool (vw S a))/\∃g,JAt w' j d st (VF S a) g/\zo (foot d fs) w w'/\xO w fs g:=by
 have A:=XQ a
 have q:=zd (Zl 0 d S fs yc (a++nl) w N (by omega) n (by omega) (E _) h.disk)
 have c:=kM n yc (a++nl)
 rw[A]at c
 have x:=fun W g (F:zbG W d (zD S yc (a++nl)) g)=>zd (YO 0 d (zD S yc (a++nl)) g yc W _ (by omega) c F)
 have P:w.cell? ⟨j,0,I⟩=J (.pointer (J ⟨d,0,I⟩)):=by rw[xN h.head];rfl
 have G:=za h.head
 have H:=zd h
 have L:a.size<=1099511627776:=by omega
 unfold VF vw
 generalize s:zD S yc (a++nl)=M at*
 unfold yc nl at q
 unfold yc at x
 cases v:zj S
 ·rw[v]at q
  clear h n c A C s
  go_enter func107,ntmps107
  go_wp2_with(first
   |(go_at_call 126;refine(ud q).mono ?_;rintro e B ⟨rfl,l,f,b,i⟩;have m:=(ud H).after f b;have Q:B.cell? ⟨j,0,I⟩=J (.pointer (J ⟨d,0,I⟩)):=(by rw[xN m.head];rfl);have D:=za m.head;have z:=x B l f;have o:=zd m;have p:=zd b;have k:=zd i;clear m f b i x)
   |(go_at_call 127;refine(ud z).mono ?_;rintro e R ⟨rfl,t,u⟩;have y:=zd t;have r:=zd u;clear t u))
  go_ret
  exact⟨by simp,l,(ud o).after (ud y) (ud r),Zq (ud p) (ud k) (ud r),ud k⟩
 ·rw[v]at q
  clear h n c A C s x
  go_enter func107,ntmps107
  go_wp2_with(go_at_call 126;refine(ud q).mono ?_;rintro e B ⟨rfl,l,f,b,i⟩;have o:=zd ((ud H).after f b);have p:=zd b;have k:=zd i;clear f b i)
  go_ret
  exact⟨by simp,l,ud o,ud p,ud k⟩
def zel(S:DS):Bool:=(xC S.files yR).isSome&&zj S
def YX(S:DS):DS:=if(xC S.files yR).isSome then qe S yR else S
def JX(S:DS)(a:ByteArray):DS:=zD (YX S) yR (a++nl)
def zbm(S:DS)(a:ByteArray):DS:=xA (JX S a) yR
def zhO(S:DS)(a:ByteArray):DS:=xM (zbm S a) yR yc
def zbn(S:DS)(a:ByteArray):DS:=if zel S then YX S else if zj (YX S)then JX S a else if zj (JX S a)then zbm S a else zhO S a
def Qp(S:DS)(a:ByteArray):Bool:=!zel S&&!zj (YX S)&&!zj (JX S a)&&!zj (zbm S a)
def JY(S:DS)(a:ByteArray)(st:Int):Int:=if zel S then st else a.size+1
theorem zen{S:DS}{N:Nat}(h:DOk S N):DOk (YX S) (N+1):=by
 unfold YX;split
 ·exact zai h _
 ·exact yH h (by omega)
theorem JAt.setStart{w:K}{j d:Nat}{st:Int}{S:DS}{fs:O}(h:JAt w j d st S fs)(n:Int):JAt (w.setCell ⟨j,1,I⟩ (int i64 n)) j d n S fs/\zo (fun k=>k=j) w (w.setCell ⟨j,1,I⟩ (int i64 n)):=by
 have a:zo (fun k=>k=j) w (w.setCell ⟨j,1,I⟩ (int i64 n)):=zo.setCell (f:=fun k=>k=j) (zo.refl _ _) (p:=⟨j,1,I⟩) (fun _=>rfl) _
 exact⟨⟨zjt h.head _,h.disk.kept a (fun k b e=>by subst e;exact h.apart b)⟩,a⟩
def vO(j d:Nat)(fs:O)(k:Nat):Prop:=k=j\/foot d fs k
theorem zw{j d:Nat}{w c f:K}{a b:O}(g:zo (vO j d a) w c)(hn:xO w a b)(i:zo (vO j d b) c f):zo (vO j d a) w f:=g.trans i (fun k l e=>by
 rcases e with e|e|e
 ·exact .inl e
 ·exact .inr (.inl e)
 ·rcases hn k e with h|h
  ·exact .inr (.inr h)
  ·omega)
theorem jf{j d:Nat}{fs:O}{w w':K}(h:zo (foot d fs) w w'):zo (vO j d fs) w w':=h.mono (fun k _ e=> .inr e)
def JEnd(w w':K)(j d:Nat)(fs:O)(b:Int)(S':DS):Prop:=∃a,JAt w' j d b S' a/\zo (vO j d fs) w w'/\xO w fs a
theorem zdu{w:K}{j d:Nat}{st:Int}{S:DS}{fs:O}(h:JAt w j d st S fs)(i:ByteArray)(N:Nat)(hN:N+i.size+10<=1099511627776)(a9:DOk S N):
  Calls prog 133 #[.pointer (J ⟨j,0,I⟩),.string i] w fun e w'=>e=.returned (.bool (Qp S i))/\JEnd w w' j d fs (JY S i st) (zbn S i):=by
 have hr:=XQ i
 have a6:=zen a9
 have a7:DOk (JX S i) (N+1+(i.size+1)+1):=by rw[<-hr];exact kM a6 _ _
 have aa:DOk (zbm S i) (N+1+(i.size+1)+1+1):=ZZ a7 _
 have ae:i.size<=1099511627776:=by omega
 have HH:=zd (zhf 0 d S fs yR w N (by omega) a9.2.2.1 h.disk)
 have HR:=zd (zbk 0 d S fs yR w N (by omega) a9 (E _) h.disk)
 have G:=fun W Y (hd:zbG W d (YX S) Y)=>zd (Zl 0 d (YX S) Y yR (i++nl) W _ (by omega) a6 (by omega) (E _) hd)
 have HS:=fun W Y (hd:zbG W d (JX S i) Y)=>zd (YO 0 d (JX S i) Y yR W _ (by omega) a7 hd)
 have HN:=fun W Y (hd:zbG W d (zbm S i) Y)=>zd (zbl 0 d (zbm S i) Y yR yc W _ (by omega) aa (E _) hd)
 have E2:Hid (JX S i=zD (YX S) yR (i++nl)):=rfl
 have E3:Hid (zbm S i=xA (JX S i) yR):=rfl
 have E4:Hid (zhO S i=xM (zbm S i) yR yc):=rfl
 have E1:Hid ((xC S.files yR).isSome=true->YX S=qe S yR):=fun e=>by unfold YX;rw[if_pos e]
 have E0:Hid ((xC S.files yR).isSome=false->YX S=S):=fun e=>by unfold YX;rw[if_neg (by simp[e])]
 unfold Qp zbn JY zel
 have c0:w.cell? ⟨j,0,I⟩=J (.pointer (J ⟨d,0,I⟩)):=by rw[xN h.head];rfl
 have ad:=za h.head
 have H:=zd h
 generalize(xC S.files yR).isSome=hp at*
 generalize YX S=S1 at*
 generalize JX S i=S2 at*
 generalize zbm S i=S3 at*
 generalize zhO S i=S4 at*
 unfold yR at HH HR
 unfold yR nl at G
 unfold yR at HS
 unfold yR yc at HN
 clear h a9 a6 a7 aa hr hN
 cases hp
 ·clear HR E1
  cases X:zj S1
  ·cases a4:zj S2
   ·cases a8:zj S3
    ·simp only[X]at G
     simp only[a4]at HS
     simp only[a8]at HN
     have a:JAt w j d st S1 fs:=by rw[ud E0 rfl];exact ud H
     have u:Hid (zo (vO j d fs) w w):=zo.refl _ _
     have b:Hid (xO w fs fs):=xO.refl _ _
     obtain⟨c,p⟩:=a.setStart ((i.size:Int)+1)
     have d0:(w.setCell ⟨j,1,I⟩ (int i64 ((i.size:Int)+1))).cell? ⟨j,0,I⟩=J (.pointer (J ⟨d,0,I⟩)):=(by rw[xN c.head];rfl)
     have d1:=Yd a.head 1
     have d2:w.cell? ⟨j,1,I⟩=J (int i64 st):=(by rw[xN a.head];rfl)
     have d3:w.cell? ⟨j,0,I⟩=J (.pointer (J ⟨d,0,I⟩)):=(by rw[xN a.head];rfl)
     have Q:=za a.head
     have R:=za c.head
     have y:=zd c
     have g:=zd (zw (ud u) (ud b) (p.mono (fun k _ e=> .inl e)))
     have x:=G _ _ c.disk
     clear a c p G
     go_enter func133,ntmps133
     go_wp2_with(first
      |(go_at_call 205;refine(ud HH).mono ?_;rintro e w0 ⟨rfl,rfl⟩)
      |(go_at_call 126;refine(ud x).mono ?_;rintro e w3 ⟨rfl,M,o,m,r⟩;have f:=(ud y).after (S':=S2) (by rw[ud E2];exact o) m;have e0:w3.cell? ⟨j,0,I⟩=J (.pointer (J ⟨d,0,I⟩)):=(by rw[xN f.head];rfl);have T:=za f.head;have z:=zd f;have s:=zd (jf (j:=j) m);have n:=zd r;have F:=HS _ _ f.disk;clear f o m r)
      |(go_at_call 127;refine(ud F).mono ?_;rintro e w4 ⟨rfl,v,q⟩;have l:=(ud z).after (S':=S3) (by rw[ud E3];exact v) q;have f0:w4.cell? ⟨j,0,I⟩=J (.pointer (J ⟨d,0,I⟩)):=(by rw[xN l.head];rfl);have Z:=za l.head;have L:=zd l;have A:=zd (jf (j:=j) q);have V:=HN _ _ l.disk;clear l v q)
      |(go_at_call 207;refine(ud V).mono ?_;rintro e w5 ⟨rfl,a3,P,B,U⟩;have a0:=zd ((ud L).after (S':=S4) (by rw[ud E4];exact P) B);have a1:=zd (jf (j:=j) B);have a2:=zd U;clear P B U))
     go_ret
     exact⟨rfl,⟨a3,ud a0,zw (zw (zw (ud g) (ud b) (ud s)) (xO.trans (ud b) (ud g).size (ud n)) (ud A)) (xO.trans (ud b) (ud g).size (ud n)) (ud a1),xO.trans (xO.trans (ud b) (ud g).size (ud n)) ((zw (zw (ud g) (ud b) (ud s)) (xO.trans (ud b) (ud g).size (ud n)) (ud A))).size (ud a2)⟩⟩
    ·simp only[X]at G
     simp only[a4]at HS
     simp only[a8]at HN
     have a:JAt w j d st S1 fs:=by rw[ud E0 rfl];exact ud H
     have u:Hid (zo (vO j d fs) w w):=zo.refl _ _
     have b:Hid (xO w fs fs):=xO.refl _ _
     obtain⟨c,p⟩:=a.setStart ((i.size:Int)+1)
     have d0:(w.setCell ⟨j,1,I⟩ (int i64 ((i.size:Int)+1))).cell? ⟨j,0,I⟩=J (.pointer (J ⟨d,0,I⟩)):=(by rw[xN c.head];rfl)
     have d1:=Yd a.head 1
     have d2:w.cell? ⟨j,1,I⟩=J (int i64 st):=(by rw[xN a.head];rfl)
     have d3:w.cell? ⟨j,0,I⟩=J (.pointer (J ⟨d,0,I⟩)):=(by rw[xN a.head];rfl)
     have Q:=za a.head
     have R:=za c.head
     have y:=zd c
     have g:=zd (zw (ud u) (ud b) (p.mono (fun k _ e=> .inl e)))
     have x:=G _ _ c.disk
     clear a c p G
     go_enter func133,ntmps133
     go_wp2_with(first
      |(go_at_call 205;refine(ud HH).mono ?_;rintro e w0 ⟨rfl,rfl⟩)
      |(go_at_call 126;refine(ud x).mono ?_;rintro e w3 ⟨rfl,M,o,m,r⟩;have f:=(ud y).after (S':=S2) (by rw[ud E2];exact o) m;have e0:w3.cell? ⟨j,0,I⟩=J (.pointer (J ⟨d,0,I⟩)):=(by rw[xN f.head];rfl);have T:=za f.head;have z:=zd f;have s:=zd (jf (j:=j) m);have n:=zd r;have F:=HS _ _ f.disk;clear f o m r)
      |(go_at_call 127;refine(ud F).mono ?_;rintro e w4 ⟨rfl,v,q⟩;have l:=(ud z).after (S':=S3) (by rw[ud E3];exact v) q;have f0:w4.cell? ⟨j,0,I⟩=J (.pointer (J ⟨d,0,I⟩)):=(by rw[xN l.head];rfl);have Z:=za l.head;have L:=zd l;have A:=zd (jf (j:=j) q);have V:=HN _ _ l.disk;clear l v q)
      |(go_at_call 207;refine(ud V).mono ?_;rintro e w5 ⟨rfl,a3,P,B,U⟩;have a0:=zd ((ud L).after (S':=S4) (by rw[ud E4];exact P) B);have a1:=zd (jf (j:=j) B);have a2:=zd U;clear P B U))
     go_ret
     exact⟨rfl,⟨a3,ud a0,zw (zw (zw (ud g) (ud b) (ud s)) (xO.trans (ud b) (ud g).size (ud n)) (ud A)) (xO.trans (ud b) (ud g).size (ud n)) (ud a1),xO.trans (xO.trans (ud b) (ud g).size (ud n)) ((zw (zw (ud g) (ud b) (ud s)) (xO.trans (ud b) (ud g).size (ud n)) (ud A))).size (ud a2)⟩⟩
   ·simp only[X]at G
    simp only[a4]at HS
    have a:JAt w j d st S1 fs:=by rw[ud E0 rfl];exact ud H
    have u:Hid (zo (vO j d fs) w w):=zo.refl _ _
    have b:Hid (xO w fs fs):=xO.refl _ _
    obtain⟨c,p⟩:=a.setStart ((i.size:Int)+1)
    have d0:(w.setCell ⟨j,1,I⟩ (int i64 ((i.size:Int)+1))).cell? ⟨j,0,I⟩=J (.pointer (J ⟨d,0,I⟩)):=(by rw[xN c.head];rfl)
    have d1:=Yd a.head 1
    have d2:w.cell? ⟨j,1,I⟩=J (int i64 st):=(by rw[xN a.head];rfl)
    have d3:w.cell? ⟨j,0,I⟩=J (.pointer (J ⟨d,0,I⟩)):=(by rw[xN a.head];rfl)
    have Q:=za a.head
    have R:=za c.head
    have y:=zd c
    have g:=zd (zw (ud u) (ud b) (p.mono (fun k _ e=> .inl e)))
    have x:=G _ _ c.disk
    clear a c p G
    go_enter func133,ntmps133
    go_wp2_with(first
     |(go_at_call 205;refine(ud HH).mono ?_;rintro e w0 ⟨rfl,rfl⟩)
     |(go_at_call 126;refine(ud x).mono ?_;rintro e w3 ⟨rfl,M,o,m,r⟩;have f:=(ud y).after (S':=S2) (by rw[ud E2];exact o) m;have e0:w3.cell? ⟨j,0,I⟩=J (.pointer (J ⟨d,0,I⟩)):=(by rw[xN f.head];rfl);have T:=za f.head;have z:=zd f;have s:=zd (jf (j:=j) m);have n:=zd r;have F:=HS _ _ f.disk;clear f o m r)
     |(go_at_call 127;refine(ud F).mono ?_;rintro e w4 ⟨rfl,v,q⟩;have l:=(ud z).after (S':=S3) (by rw[ud E3];exact v) q;have f0:w4.cell? ⟨j,0,I⟩=J (.pointer (J ⟨d,0,I⟩)):=(by rw[xN l.head];rfl);have Z:=za l.head;have L:=zd l;have A:=zd (jf (j:=j) q);have V:=HN _ _ l.disk;clear l v q))
    go_ret
    exact⟨rfl,⟨M,ud L,(zw (zw (ud g) (ud b) (ud s)) (xO.trans (ud b) (ud g).size (ud n)) (ud A)),(xO.trans (ud b) (ud g).size (ud n))⟩⟩
  ·simp only[X]at G
   have a:JAt w j d st S1 fs:=by rw[ud E0 rfl];exact ud H
   have u:Hid (zo (vO j d fs) w w):=zo.refl _ _
   have b:Hid (xO w fs fs):=xO.refl _ _
   obtain⟨c,p⟩:=a.setStart ((i.size:Int)+1)
   have d0:(w.setCell ⟨j,1,I⟩ (int i64 ((i.size:Int)+1))).cell? ⟨j,0,I⟩=J (.pointer (J ⟨d,0,I⟩)):=(by rw[xN c.head];rfl)
   have d1:=Yd a.head 1
   have d2:w.cell? ⟨j,1,I⟩=J (int i64 st):=(by rw[xN a.head];rfl)
   have d3:w.cell? ⟨j,0,I⟩=J (.pointer (J ⟨d,0,I⟩)):=(by rw[xN a.head];rfl)
   have Q:=za a.head
   have R:=za c.head
   have y:=zd c
   have g:=zd (zw (ud u) (ud b) (p.mono (fun k _ e=> .inl e)))
   have x:=G _ _ c.disk
   clear a c p G
   go_enter func133,ntmps133
   go_wp2_with(first
    |(go_at_call 205;refine(ud HH).mono ?_;rintro e w0 ⟨rfl,rfl⟩)
    |(go_at_call 126;refine(ud x).mono ?_;rintro e w3 ⟨rfl,M,o,m,r⟩;have f:=(ud y).after (S':=S2) (by rw[ud E2];exact o) m;have e0:w3.cell? ⟨j,0,I⟩=J (.pointer (J ⟨d,0,I⟩)):=(by rw[xN f.head];rfl);have T:=za f.head;have z:=zd f;have s:=zd (jf (j:=j) m);have n:=zd r;have F:=HS _ _ f.disk;clear f o m r))
   go_ret
   exact⟨rfl,⟨M,ud z,(zw (ud g) (ud b) (ud s)),(xO.trans (ud b) (ud g).size (ud n))⟩⟩
 ·clear E0
  have E5:=zd (ud E1 rfl)
  clear E1
  cases ab:zj S
  ·simp only[ab]at HR
   cases X:zj S1
   ·cases a4:zj S2
    ·cases a8:zj S3
     ·simp only[X]at G
      simp only[a4]at HS
      simp only[a8]at HN
      go_enter func133,ntmps133
      go_wp2_with(first
       |(go_at_call 205;refine(ud HH).mono ?_;rintro e w0 ⟨rfl,rfl⟩)
       |(go_at_call 206;refine(ud HR).mono ?_;rintro e w1 ⟨rfl,a5,C,t,D⟩;have a:=(ud H).after (S':=S1) (by rw[ud E5];exact C) t;have u:=zd (jf (j:=j) t);have b:=zd D;clear C t D;obtain⟨c,p⟩:=a.setStart ((i.size:Int)+1);have d0:(w1.setCell ⟨j,1,I⟩ (int i64 ((i.size:Int)+1))).cell? ⟨j,0,I⟩=J (.pointer (J ⟨d,0,I⟩)):=(by rw[xN c.head];rfl);have d1:=Yd a.head 1;have d2:w1.cell? ⟨j,1,I⟩=J (int i64 st):=(by rw[xN a.head];rfl);have d3:w1.cell? ⟨j,0,I⟩=J (.pointer (J ⟨d,0,I⟩)):=(by rw[xN a.head];rfl);have Q:=za a.head;have R:=za c.head;have y:=zd c;have g:=zd (zw (ud u) (ud b) (p.mono (fun k _ e=> .inl e)));have x:=G _ _ c.disk;clear a c p G)
       |(go_at_call 126;refine(ud x).mono ?_;rintro e w3 ⟨rfl,M,o,m,r⟩;have f:=(ud y).after (S':=S2) (by rw[ud E2];exact o) m;have e0:w3.cell? ⟨j,0,I⟩=J (.pointer (J ⟨d,0,I⟩)):=(by rw[xN f.head];rfl);have T:=za f.head;have z:=zd f;have s:=zd (jf (j:=j) m);have n:=zd r;have F:=HS _ _ f.disk;clear f o m r)
       |(go_at_call 127;refine(ud F).mono ?_;rintro e w4 ⟨rfl,v,q⟩;have l:=(ud z).after (S':=S3) (by rw[ud E3];exact v) q;have f0:w4.cell? ⟨j,0,I⟩=J (.pointer (J ⟨d,0,I⟩)):=(by rw[xN l.head];rfl);have Z:=za l.head;have L:=zd l;have A:=zd (jf (j:=j) q);have V:=HN _ _ l.disk;clear l v q)
       |(go_at_call 207;refine(ud V).mono ?_;rintro e w5 ⟨rfl,a3,P,B,U⟩;have a0:=zd ((ud L).after (S':=S4) (by rw[ud E4];exact P) B);have a1:=zd (jf (j:=j) B);have a2:=zd U;clear P B U))
      go_ret
      exact⟨rfl,⟨a3,ud a0,zw (zw (zw (ud g) (ud b) (ud s)) (xO.trans (ud b) (ud g).size (ud n)) (ud A)) (xO.trans (ud b) (ud g).size (ud n)) (ud a1),xO.trans (xO.trans (ud b) (ud g).size (ud n)) ((zw (zw (ud g) (ud b) (ud s)) (xO.trans (ud b) (ud g).size (ud n)) (ud A))).size (ud a2)⟩⟩
     ·simp only[X]at G
      simp only[a4]at HS
      simp only[a8]at HN
      go_enter func133,ntmps133
      go_wp2_with(first
       |(go_at_call 205;refine(ud HH).mono ?_;rintro e w0 ⟨rfl,rfl⟩)
       |(go_at_call 206;refine(ud HR).mono ?_;rintro e w1 ⟨rfl,a5,C,t,D⟩;have a:=(ud H).after (S':=S1) (by rw[ud E5];exact C) t;have u:=zd (jf (j:=j) t);have b:=zd D;clear C t D;obtain⟨c,p⟩:=a.setStart ((i.size:Int)+1);have d0:(w1.setCell ⟨j,1,I⟩ (int i64 ((i.size:Int)+1))).cell? ⟨j,0,I⟩=J (.pointer (J ⟨d,0,I⟩)):=(by rw[xN c.head];rfl);have d1:=Yd a.head 1;have d2:w1.cell? ⟨j,1,I⟩=J (int i64 st):=(by rw[xN a.head];rfl);have d3:w1.cell? ⟨j,0,I⟩=J (.pointer (J ⟨d,0,I⟩)):=(by rw[xN a.head];rfl);have Q:=za a.head;have R:=za c.head;have y:=zd c;have g:=zd (zw (ud u) (ud b) (p.mono (fun k _ e=> .inl e)));have x:=G _ _ c.disk;clear a c p G)
       |(go_at_call 126;refine(ud x).mono ?_;rintro e w3 ⟨rfl,M,o,m,r⟩;have f:=(ud y).after (S':=S2) (by rw[ud E2];exact o) m;have e0:w3.cell? ⟨j,0,I⟩=J (.pointer (J ⟨d,0,I⟩)):=(by rw[xN f.head];rfl);have T:=za f.head;have z:=zd f;have s:=zd (jf (j:=j) m);have n:=zd r;have F:=HS _ _ f.disk;clear f o m r)
       |(go_at_call 127;refine(ud F).mono ?_;rintro e w4 ⟨rfl,v,q⟩;have l:=(ud z).after (S':=S3) (by rw[ud E3];exact v) q;have f0:w4.cell? ⟨j,0,I⟩=J (.pointer (J ⟨d,0,I⟩)):=(by rw[xN l.head];rfl);have Z:=za l.head;have L:=zd l;have A:=zd (jf (j:=j) q);have V:=HN _ _ l.disk;clear l v q)
       |(go_at_call 207;refine(ud V).mono ?_;rintro e w5 ⟨rfl,a3,P,B,U⟩;have a0:=zd ((ud L).after (S':=S4) (by rw[ud E4];exact P) B);have a1:=zd (jf (j:=j) B);have a2:=zd U;clear P B U))
      go_ret
      exact⟨rfl,⟨a3,ud a0,zw (zw (zw (ud g) (ud b) (ud s)) (xO.trans (ud b) (ud g).size (ud n)) (ud A)) (xO.trans (ud b) (ud g).size (ud n)) (ud a1),xO.trans (xO.trans (ud b) (ud g).size (ud n)) ((zw (zw (ud g) (ud b) (ud s)) (xO.trans (ud b) (ud g).size (ud n)) (ud A))).size (ud a2)⟩⟩
    ·simp only[X]at G
     simp only[a4]at HS
     go_enter func133,ntmps133
     go_wp2_with(first
      |(go_at_call 205;refine(ud HH).mono ?_;rintro e w0 ⟨rfl,rfl⟩)
      |(go_at_call 206;refine(ud HR).mono ?_;rintro e w1 ⟨rfl,a5,C,t,D⟩;have a:=(ud H).after (S':=S1) (by rw[ud E5];exact C) t;have u:=zd (jf (j:=j) t);have b:=zd D;clear C t D;obtain⟨c,p⟩:=a.setStart ((i.size:Int)+1);have d0:(w1.setCell ⟨j,1,I⟩ (int i64 ((i.size:Int)+1))).cell? ⟨j,0,I⟩=J (.pointer (J ⟨d,0,I⟩)):=(by rw[xN c.head];rfl);have d1:=Yd a.head 1;have d2:w1.cell? ⟨j,1,I⟩=J (int i64 st):=(by rw[xN a.head];rfl);have d3:w1.cell? ⟨j,0,I⟩=J (.pointer (J ⟨d,0,I⟩)):=(by rw[xN a.head];rfl);have Q:=za a.head;have R:=za c.head;have y:=zd c;have g:=zd (zw (ud u) (ud b) (p.mono (fun k _ e=> .inl e)));have x:=G _ _ c.disk;clear a c p G)
      |(go_at_call 126;refine(ud x).mono ?_;rintro e w3 ⟨rfl,M,o,m,r⟩;have f:=(ud y).after (S':=S2) (by rw[ud E2];exact o) m;have e0:w3.cell? ⟨j,0,I⟩=J (.pointer (J ⟨d,0,I⟩)):=(by rw[xN f.head];rfl);have T:=za f.head;have z:=zd f;have s:=zd (jf (j:=j) m);have n:=zd r;have F:=HS _ _ f.disk;clear f o m r)
      |(go_at_call 127;refine(ud F).mono ?_;rintro e w4 ⟨rfl,v,q⟩;have l:=(ud z).after (S':=S3) (by rw[ud E3];exact v) q;have f0:w4.cell? ⟨j,0,I⟩=J (.pointer (J ⟨d,0,I⟩)):=(by rw[xN l.head];rfl);have Z:=za l.head;have L:=zd l;have A:=zd (jf (j:=j) q);have V:=HN _ _ l.disk;clear l v q))
     go_ret
     exact⟨rfl,⟨M,ud L,(zw (zw (ud g) (ud b) (ud s)) (xO.trans (ud b) (ud g).size (ud n)) (ud A)),(xO.trans (ud b) (ud g).size (ud n))⟩⟩
   ·simp only[X]at G
    go_enter func133,ntmps133
    go_wp2_with(first
     |(go_at_call 205;refine(ud HH).mono ?_;rintro e w0 ⟨rfl,rfl⟩)
     |(go_at_call 206;refine(ud HR).mono ?_;rintro e w1 ⟨rfl,a5,C,t,D⟩;have a:=(ud H).after (S':=S1) (by rw[ud E5];exact C) t;have u:=zd (jf (j:=j) t);have b:=zd D;clear C t D;obtain⟨c,p⟩:=a.setStart ((i.size:Int)+1);have d0:(w1.setCell ⟨j,1,I⟩ (int i64 ((i.size:Int)+1))).cell? ⟨j,0,I⟩=J (.pointer (J ⟨d,0,I⟩)):=(by rw[xN c.head];rfl);have d1:=Yd a.head 1;have d2:w1.cell? ⟨j,1,I⟩=J (int i64 st):=(by rw[xN a.head];rfl);have d3:w1.cell? ⟨j,0,I⟩=J (.pointer (J ⟨d,0,I⟩)):=(by rw[xN a.head];rfl);have Q:=za a.head;have R:=za c.head;have y:=zd c;have g:=zd (zw (ud u) (ud b) (p.mono (fun k _ e=> .inl e)));have x:=G _ _ c.disk;clear a c p G)
     |(go_at_call 126;refine(ud x).mono ?_;rintro e w3 ⟨rfl,M,o,m,r⟩;have f:=(ud y).after (S':=S2) (by rw[ud E2];exact o) m;have e0:w3.cell? ⟨j,0,I⟩=J (.pointer (J ⟨d,0,I⟩)):=(by rw[xN f.head];rfl);have T:=za f.head;have z:=zd f;have s:=zd (jf (j:=j) m);have n:=zd r;have F:=HS _ _ f.disk;clear f o m r))
    go_ret
    exact⟨rfl,⟨M,ud z,(zw (ud g) (ud b) (ud s)),(xO.trans (ud b) (ud g).size (ud n))⟩⟩
  ·simp only[ab]at HR
   go_enter func133,ntmps133
   go_wp2_with(first
    |(go_at_call 205;refine(ud HH).mono ?_;rintro e w0 ⟨rfl,rfl⟩)
    |(go_at_call 206;refine(ud HR).mono ?_;rintro e w1 ⟨rfl,a5,C,t,D⟩;have a:=(ud H).after (S':=S1) (by rw[ud E5];exact C) t;have u:=zd (jf (j:=j) t);have b:=zd D;clear C t D;have ac:=zd a;clear a))
   go_ret
   exact⟨rfl,⟨a5,ud ac,ud u,ud b⟩⟩
def Yq(S:DS)(st:Int):Bool:=decide (2*st+4096<(yC S yc).size)
theorem Je{S:DS}{N:Nat}(h:DOk S N)(b:ByteArray):(yC S b).size<=N:=by
 unfold yC
 cases c:xC S.files b with
 |none=>exact E _
 |some i=>
  obtain⟨f,a,_,_⟩:=yj c
  simp only[a]
  exact(h.2.2.2 f (List.mem_of_getElem? a)).2
theorem zfk{w:K}{j d:Nat}{st:Int}{S:DS}{fs:O}(h:JAt w j d st S fs)(N:Nat)(k:N<=1099511627776)(a:DOk S N)(f:0<=st/\st<=1099511627776):
  Calls prog 110 #[.pointer (J ⟨j,0,I⟩)] w fun e w'=>e=.returned (.bool (Yq S st))/\Below w.1.size w w':=by
 have HR:=fun W (l:Below w.1.size w W)=>zd (YC 0 d S fs yc W N k a.2.2.1 (h.disk.later l))
 have g:=Je a yc
 have p:w.cell? ⟨j,0,I⟩=J (.pointer (J ⟨d,0,I⟩)):=by rw[xN h.head];rfl
 have q:w.cell? ⟨j,1,I⟩=J (int i64 st):=by rw[xN h.head];rfl
 have m:=za h.head
 obtain⟨t,i⟩:∃t,yC S yc=t:=⟨_,rfl⟩
 unfold Yq
 rw[i]at g ⊢
 simp only[i]at HR
 unfold yc at HR
 have b:=HR w (Below.refl _ _)
 have c:=HR w.drew (Below.refl _ _).drew
 obtain⟨n,o⟩:=f
 clear h a HR i
 have r:IntKind.i64.wrap (2*st)=2*st:=by rw[IntKind.wrap_i64];omega
 have s:IntKind.i64.wrap (2*st+4096)=2*st+4096:=by rw[IntKind.wrap_i64];omega
 go_enter func110,ntmps110
 go_wp2_with fail
 go_region_held3 (fun w'=>w'.cell? ⟨j,0,I⟩=J (.pointer (J ⟨d,0,I⟩))/\w'.cell? ⟨j,1,I⟩=J (int i64 st)) (go_keep) (first
  |(go_at_call 128;(first|(with_reducible refine(ud b).mono ?_)|(with_reducible refine(ud c).mono ?_));rintro e V ⟨rfl,rfl⟩))
 all_goals go_wp2_with fail
 all_goals go_ret
 all_goals exact⟨by simp,(Below.refl _ _).drew⟩
def YW:ByteArray:=⟨#[43]⟩
def Qg(S:DS):DS:=if zj S then zD S yd YW else xA (zD S yd YW) yd
def VK(S:DS):Bool:=!zj S&&!zj (zD S yd YW)
def zcc(S:DS):Int:=if VK S then(yC (xA (zD S yd YW) yd) yd).size else 0
theorem zcd{w:K}{d:Nat}{S:DS}{fs:O}(h:zbG w d S fs)(N:Nat)(Q:N+10<=1099511627776)(v:DOk S N):
  Calls prog 66 #[.pointer (J ⟨d,0,I⟩)] w fun e w'=>e=.returned (.tuple #[int i64 (zcc S),.bool (VK S)])/\∃a,zbG w' d (Qg S) a/\zo (foot d fs) w w'/\xO w fs a:=by
 have L:YW.size=1:=rfl
 have p:=zd (Zl 0 d S fs yd YW w N (by omega) v (by omega) (E _) h)
 have m:DOk (zD S yd YW) (N+1+1):=by have:=kM v yd YW;rwa[L]at this
 have n:DOk (xA (zD S yd YW) yd) (N+1+1+1):=ZZ m _
 have s:=fun W a (F:zbG W d (zD S yd YW) a)=>zd (YO 0 d (zD S yd YW) a yd W _ (by omega) m F)
 have HR:=fun W a (F:zbG W d (xA (zD S yd YW) yd) a)=>zd (YC 0 d (xA (zD S yd YW) yd) a yd W _ (by omega) n.2.2.1 F)
 have z:=Je n yd
 unfold zcc VK Qg
 generalize zD S yd YW=H at*
 obtain⟨D,o⟩:∃D,xA H yd=D:=⟨_,rfl⟩
 have P:=zd o
 rw[o]at z ⊢
 simp only[o]at HR s
 obtain⟨t,G⟩:∃t,yC D yd=t:=⟨_,rfl⟩
 rw[G]at z ⊢
 simp only[G]at HR
 unfold yd YW at p
 unfold yd at HR s
 clear v m n L G o
 cases x:zj S
 ·cases y:zj H
  ·simp only[x]at p
   simp only[y]at s
   clear h
   go_enter func66,ntmps66
   go_wp2_with(first
    |(go_at_call 126;refine(ud p).mono ?_;rintro e A ⟨rfl,b,c,f,g⟩;have u:=s A b c;have k:=zd f;have i:=zd g;clear c f g)
    |(go_at_call 127;refine(ud u).mono ?_;rintro e M ⟨rfl,j,l⟩;have C:=HR M b j;have q:=zd j;have r:=zd l;clear j l)
    |(go_at_call 128;refine(ud C).mono ?_;rintro e R ⟨rfl,rfl⟩))
   go_ret2
   exact⟨rfl,b,ud q,Zq (ud k) (ud i) (ud r),ud i⟩
  ·simp only[x]at p
   simp only[y]at s
   clear h HR
   go_enter func66,ntmps66
   go_wp2_with(first
    |(go_at_call 126;refine(ud p).mono ?_;rintro e A ⟨rfl,b,c,f,g⟩;have u:=s A b c;have k:=zd f;have i:=zd g;clear c f g)
    |(go_at_call 127;refine(ud u).mono ?_;rintro e M ⟨rfl,j,l⟩;have q:=zd j;have r:=zd l;clear j l))
   go_ret2
   exact⟨rfl,b,ud q,Zq (ud k) (ud i) (ud r),ud i⟩
 ·simp only[x]at p
  clear h HR s
  go_enter func66,ntmps66
  go_wp2_with(first
   |(go_at_call 126;refine(ud p).mono ?_;rintro e A ⟨rfl,b,c,f,g⟩;have B:=zd c;have k:=zd f;have i:=zd g;clear c f g))
  go_ret2
  exact⟨rfl,b,ud B,ud k,ud i⟩
def zge(t:ByteArray):Nat:=(Lib.lastIndexByte t 10+1).toNat
theorem zgS(t:ByteArray):Lib.lastIndexByte t 10=(zge t:Int)-1/\zge t<=t.size:=by
 unfold zge Lib.lastIndexByte
 rcases Lib.lastIdx_spec t 10 t.size with⟨h,-⟩|⟨i,a,h,-⟩
 ·rw[h];exact⟨rfl,E _⟩
 ·rw[h];constructor<;>omega
theorem ziW(s:ByteArray)(a:s.size<=1099511627776)(w:K):Calls prog 132 #[.string s,.int .u8 10] w fun e w'=>e=.returned (int i64 (Lib.lastIndexByte s 10))/\w'=w:=
 Any.strings_LastIndexByte Tryz.layLI s 10 (by omega) w
theorem zcU(s:ByteArray)(w:K):Calls prog 131 #[.string s] w fun e w'=>e=.returned (.func (.func 202) #[] #[.pointer (J ⟨w.1.size,0,I⟩)])/\w'=w.alloc (.cells #[.string s] 9):=by
 go_enter func131,ntmps131
 go_wp2_with fail
 go_ret
 exact⟨rfl,rfl⟩
theorem Jf{w:K}{d:Nat}{S:DS}{fs:O}(h:zbG w d S fs)(N:Nat)(g:N<=1099511627776)(a:DOk S N):
  Calls prog 72 #[.pointer (J ⟨d,0,I⟩)] w fun e w'=>e=.returned (.func (.func 202) #[] #[.pointer (J ⟨w.1.size,0,I⟩)])/\w'=w.alloc (.cells #[.string ((yC S yc).extract 0 (zge (yC S yc)))] 9):=by
 have HR:=zd (YC 0 d S fs yc w N g a.2.2.1 h)
 have i:=Je a yc
 generalize yC S yc=t at*
 obtain⟨c,k⟩:=zgS t
 have b:=zd (ziW t (by omega) w)
 rw[c]at b
 generalize zge t=n at*
 have f:=zd (zcU (t.extract 0 n) w)
 unfold yc at HR
 clear h a c
 have j:((n:Int)-1+1)=n:=by omega
 go_enter func72,ntmps72
 go_wp2_with(first
  |(go_at_call 128;refine(ud HR).mono ?_;rintro e l ⟨rfl,rfl⟩)
  |(go_at_call 132;refine(ud b).mono ?_;rintro e m ⟨rfl,rfl⟩)
  |(go_at_call 131;refine(ud f).mono ?_;rintro e o ⟨rfl,rfl⟩))
 go_ret
 exact⟨rfl,rfl⟩
def yA(e:Nat):ByteArray:=⟨Array.replicate e 43⟩
theorem zbe(e:Nat):(yA e).size=e:=by simp[yA,ByteArray.size]
def jS(e:Nat)(txt:ByteArray):DS:=⟨[⟨yd,yA e,e⟩,⟨yc,txt,txt.size⟩],-1,false⟩
def jS0(e:Nat):DS:=⟨[⟨yd,yA e,e⟩],-1,false⟩
theorem bl(a:Array UInt8):(⟨a⟩:ByteArray).toList=a.toList:=by rw[ByteArray.toList_eq]
theorem Zo(a:ByteArray):eqS a a=true:=by simp[eqS]
theorem zeN:eqS yd yc=false:=by simp[eqS,yd,yc,bl]
theorem zaz:eqS yd yR=false:=by simp[eqS,yd,yR,bl]
theorem ziP:eqS yc yR=false:=by simp[eqS,yc,yR,bl]
theorem ziO:eqS yR yc=false:=by simp[eqS,yc,yR,bl]
theorem yk{S:DS}(h:S.left= -1)(a:S.down=false):zj S=false/\ze S=S:=by
 have b:zj S=false:=by unfold zj;rw[h,a];rfl
 refine⟨b,?_⟩
 obtain⟨f,l,d⟩:=S
 dsimp only at h a
 subst h a
 unfold ze;rw[b];rfl
theorem XV(e:Nat)(txt:ByteArray)(k:Nat)(r:List FS):xC (⟨yd,yA e,e⟩::⟨yc,txt,k⟩::r) yc=J 1:=by
 unfold xC zZ zZ;rw[zeN,Zo];rfl
theorem Jc(e:Nat)(txt:ByteArray)(k:Nat):xC [⟨yd,yA e,e⟩,⟨yc,txt,k⟩] yR=I:=by
 unfold xC zZ zZ zZ;rw[zaz,ziP];rfl
theorem KW(e:Nat)(txt t2:ByteArray)(k a:Nat):xC [⟨yd,yA e,e⟩,⟨yc,txt,k⟩,⟨yR,t2,a⟩] yR=J 2:=by
 unfold xC zZ zZ zZ;rw[zaz,ziP,Zo];rfl
theorem KZ(e:Nat):xC [⟨yd,yA e,e⟩] yR=I:=by
 unfold xC zZ zZ;rw[zaz];rfl
theorem Va(e:Nat):xC [⟨yd,yA e,e⟩] yc=I:=by
 unfold xC zZ zZ;rw[zeN];rfl
theorem QO(e:Nat)(t2:ByteArray)(a:Nat):xC [⟨yd,yA e,e⟩,⟨yR,t2,a⟩] yR=J 1:=by
 unfold xC zZ zZ;rw[zaz,Zo];rfl
theorem zhM(e:Nat)(txt:ByteArray):yC (jS e txt) yc=txt:=by unfold yC jS;rw[XV];rfl
theorem zfB(e:Nat):yC (jS0 e) yc=⟨#[]⟩:=by unfold yC jS0;rw[Va]
theorem ziB{e N:Nat}{txt:ByteArray}(b:e<=N)(c:txt.size<=N)(d:2<=N):DOk (jS e txt) N:=by
 refine⟨by show(-1:Int)<= -1;omega,by show(-1:Int)<=9223372036854775807;omega,d,fun f a=>?_⟩
 simp only[jS,List.mem_cons,List.not_mem_nil,or_false]at a
 rcases a with rfl|rfl
 ·rw[zbe];exact⟨Nat.le_refl _,b⟩
 ·exact⟨Nat.le_refl _,c⟩
theorem zgo(e:Nat)(txt a:ByteArray):VF (jS e txt) a=jS e (txt++(a++nl))/\vw (jS e txt) a=true:=by
 obtain⟨c,g⟩:=yk (S:=jS e txt) rfl rfl
 have h:zD (jS e txt) yc (a++nl)=⟨[⟨yd,yA e,e⟩,⟨yc,txt++(a++nl),txt.size⟩],-1,false⟩:=by
  rw[yx (i:=1) (f:=⟨yc,txt,txt.size⟩) c (XV e txt txt.size []) rfl,g];rfl
 obtain⟨b,d⟩:=yk (S:=⟨[⟨yd,yA e,e⟩,⟨yc,txt++(a++nl),txt.size⟩],-1,false⟩) rfl rfl
 unfold VF vw
 rw[c,h,b]
 refine⟨?_,rfl⟩
 simp only[Bool.false_eq_true,if_false]
 rw[qm (i:=1) (f:=⟨yc,txt++(a++nl),txt.size⟩) b (XV e (txt++(a++nl)) txt.size []) rfl,d];rfl
theorem zjh(e:Nat)(txt a:ByteArray):zbn (jS e txt) a=jS e (a++nl)/\Qp (jS e txt) a=true/\zel (jS e txt)=false:=by
 have b:xC (jS e txt).files yR=I:=Jc e txt txt.size
 have o:zel (jS e txt)=false:=by unfold zel;rw[b];rfl
 have h:YX (jS e txt)=jS e txt:=by unfold YX;rw[b];rfl
 obtain⟨c,a2⟩:=yk (S:=jS e txt) rfl rfl
 have j:JX (jS e txt) a=⟨[⟨yd,yA e,e⟩,⟨yc,txt,txt.size⟩,⟨yR,a++nl,0⟩],-1,false⟩:=by
  unfold JX;rw[h,qj c b,a2];rfl
 obtain⟨d,l⟩:=yk (S:=⟨[⟨yd,yA e,e⟩,⟨yc,txt,txt.size⟩,⟨yR,a++nl,0⟩],-1,false⟩) rfl rfl
 have k:zbm (jS e txt) a=⟨[⟨yd,yA e,e⟩,⟨yc,txt,txt.size⟩,⟨yR,a++nl,(a++nl).size⟩],-1,false⟩:=by
  unfold zbm;rw[j,qm (i:=2) (f:=⟨yR,a++nl,0⟩) d (KW e txt _ _ _) rfl,l];rfl
 obtain⟨g,m⟩:=yk (S:=⟨[⟨yd,yA e,e⟩,⟨yc,txt,txt.size⟩,⟨yR,a++nl,(a++nl).size⟩],-1,false⟩) rfl rfl
 have n:zhO (jS e txt) a=jS e (a++nl):=by
  unfold zhO
  rw[k,kE (i:=2) (f:=⟨yR,a++nl,(a++nl).size⟩) g (KW e txt _ _ _) rfl ziO,m]
  simp[ye,zeN,zaz,Zo,jS]
 unfold zbn Qp
 rw[o,h,j,k,c,d,g,n]
 exact⟨rfl,rfl,rfl⟩
theorem zdv(e:Nat)(a:ByteArray):zbn (jS0 e) a=jS e (a++nl)/\Qp (jS0 e) a=true/\zel (jS0 e)=false:=by
 have b:xC (jS0 e).files yR=I:=KZ e
 have o:zel (jS0 e)=false:=by unfold zel;rw[b];rfl
 have h:YX (jS0 e)=jS0 e:=by unfold YX;rw[b];rfl
 obtain⟨c,a2⟩:=yk (S:=jS0 e) rfl rfl
 have j:JX (jS0 e) a=⟨[⟨yd,yA e,e⟩,⟨yR,a++nl,0⟩],-1,false⟩:=by
  unfold JX;rw[h,qj c b,a2];rfl
 obtain⟨d,l⟩:=yk (S:=⟨[⟨yd,yA e,e⟩,⟨yR,a++nl,0⟩],-1,false⟩) rfl rfl
 have k:zbm (jS0 e) a=⟨[⟨yd,yA e,e⟩,⟨yR,a++nl,(a++nl).size⟩],-1,false⟩:=by
  unfold zbm;rw[j,qm (i:=1) (f:=⟨yR,a++nl,0⟩) d (QO e _ _) rfl,l];rfl
 obtain⟨g,m⟩:=yk (S:=⟨[⟨yd,yA e,e⟩,⟨yR,a++nl,(a++nl).size⟩],-1,false⟩) rfl rfl
 have n:zhO (jS0 e) a=jS e (a++nl):=by
  unfold zhO
  rw[k,kE (i:=1) (f:=⟨yR,a++nl,(a++nl).size⟩) g (QO e _ _) rfl ziO,m]
  simp[ye,zeN,zaz,Zo,jS]
 unfold zbn Qp
 rw[o,h,j,k,c,d,g,n]
 exact⟨rfl,rfl,rfl⟩
theorem zgF:Qg ZV=jS0 1/\VK ZV=true/\zcc ZV=1:=by
 obtain⟨a,a2⟩:=yk (S:=ZV) rfl rfl
 have b:zD ZV yd YW=⟨[⟨yd,yA 1,0⟩],-1,false⟩:=by
  rw[qj a rfl,a2];rfl
 obtain⟨c,h⟩:=yk (S:=⟨[⟨yd,yA 1,0⟩],-1,false⟩) rfl rfl
 have g:∀k,xC [⟨yd,yA 1,k⟩] yd=J 0:=fun k=>by unfold xC zZ;rw[Zo];rfl
 have d:xA ⟨[⟨yd,yA 1,0⟩],-1,false⟩ yd=jS0 1:=by
  rw[qm (i:=0) (f:=⟨yd,yA 1,0⟩) c (g 0) rfl,h];rfl
 have e:VK ZV=true:=by unfold VK;rw[b,a,c];rfl
 refine⟨by unfold Qg;rw[a,b,d];rfl,e,?_⟩
 unfold zcc
 rw[e,b,d]
 unfold yC jS0
 rw[g 1]
 rfl
end Go.Proofs.YtndhpgciopcncaaGreatDoor
