import Derived.Test.YtndhpgciopcncaaGreatDoorVDisk6
import Derived.Deep.RegionHeld3
open Option renaming none → I
open Option renaming some → J
open Go renaming World → K
open Go renaming Value → O
open Nat renaming zero_le → E
open Go.Value (int)
open Go.IntKind (i64)
set_option linter.unusedVariables false
set_option maxRecDepth 8000
set_option maxHeartbeats 8000000
open Go.Proofs.Tryz
namespace Go.Proofs.YtndhpgciopcncaaGreatDoor
open Go.RowKit Go.Shelf
def Xd:DS:=⟨[],-1,false⟩
theorem zdw(B:Nat)(w:K)(b:B<=w.1.size):
  Calls prog 38 #[] w fun e a=>e=.returned (.pointer (J ⟨w.1.size,0,I⟩))/\zx 111 113 B a w.1.size Xd (.slice I 0 0)/\Below w.1.size w a/\a.1.size=w.1.size+1:=by
 go_enter func38,ntmps38
 go_wp2
 go_ret
 exact⟨rfl,⟨heap_alloc_last _ _,b,YL _ _ _ _⟩,(Below.refl _ _).alloc (Nat.le_refl _) _,kY _ _⟩
theorem QA{S:DS}{n:Int}(h:zj S=true):Qk S n=S:=by simp[Qk,h]
theorem zbL{S:DS}{n:Int}(h:zj S=false)(a:n<0):Qk S n={S with left:= -1}:=by simp[Qk,h,a]
theorem zbM{S:DS}{n:Int}(h:zj S=false)(a:¬n<0):Qk S n={S with left:=n}:=by simp[Qk,h,a]
theorem JQ{a b:ByteArray}(h:a=b):Ending.returned (.string a)=.returned (.string b):=by rw[h]
def yD(S:DS)(a:ByteArray):ByteArray:=match xC S.files a with|some i=>(match S.files[i]? with|some f=>f.data|none=>⟨#[]⟩)|none=>⟨#[]⟩
theorem YP(B:Nat)(p:Nat)(S:DS)(l:O)(c:ByteArray)(w:K)(N:Nat)(n:N<=1099511627776)(s:S.files.length<=N)(h:zx 111 113 B w p S l):
  Calls prog 128 #[.pointer (J ⟨p,0,I⟩),.string c] w fun e t=>e=.returned (.string (yD S c))/\t=w:=by
 have b:=zd (qX B p S l c w N n s h)
 cases a:xC S.files c with
 |none=>
  have d:qd S.files c= -1:=by simp[qd,a]
  have j:Hid (yD S c=⟨#[]⟩):=by show _=_;simp[yD,a]
  rw[d]at b
  clear a d
  go_enter func128,ntmps128
  go_wp2_with(go_at_call 198;refine(ud b).mono ?_;rintro e u ⟨rfl,rfl⟩)
  go_ret
  exact⟨JQ (ud j).symm,rfl⟩
 |some i=>
  obtain⟨f,k,q,_⟩:=ym a
  have d:qd S.files c=i:=by simp[qd,a]
  have j:Hid (yD S c=f.data):=by show _=_;simp[yD,a,k]
  rw[d]at b
  have r:(i:Int)<S.files.length:=by omega
  have o:¬(i:Int)<0:=by omega
  obtain⟨g,m,rfl,-⟩:=h.files (by omega)
  have x:=h.c0
  obtain⟨y,z,A,v⟩:=h.at k
  clear a d k v
  go_enter func128,ntmps128
  go_wp2_with(go_at_call 198;refine(ud b).mono ?_;rintro e u ⟨rfl,rfl⟩)
  go_ret
  exact⟨JQ (ud j).symm,rfl⟩
theorem zhM(B:Nat)(p:Nat)(S:DS)(f:O)(c:ByteArray)(w:K)(N:Nat)(g:N<=1099511627776)(k:S.files.length<=N)(h:zx 111 113 B w p S f):
  Calls prog 205 #[.pointer (J ⟨p,0,I⟩),.string c] w fun e l=>e=.returned (.bool (xC S.files c).isSome)/\l=w:=by
 have a:=zd (qX B p S f c w N g k h)
 cases b:xC S.files c with
 |none=>
  have d:qd S.files c= -1:=by simp[qd,b]
  rw[d]at a
  clear b d
  go_enter func205,ntmps205
  go_wp2_with(go_at_call 198;refine(ud a).mono ?_;rintro e m ⟨rfl,rfl⟩)
  go_ret
  exact⟨rfl,rfl⟩
 |some i=>
  have d:qd S.files c=i:=by simp[qd,b]
  have j:(0:Int)<=(i:Int):=by omega
  rw[d]at a
  clear b d
  go_enter func205,ntmps205
  go_wp2_with(go_at_call 198;refine(ud a).mono ?_;rintro e m ⟨rfl,rfl⟩)
  go_ret
  exact⟨kg (by simp),rfl⟩
theorem yH{S:DS}{N a:Nat}(h:DOk S N)(b:N<=a):DOk S a:=⟨h.1,h.2.1,Nat.le_trans h.2.2.1 b,fun f c=>⟨(h.2.2.2 f c).1,Nat.le_trans (h.2.2.2 f c).2 b⟩⟩
theorem yX{S:DS}{N:Nat}(h:DOk S N):DOk (zh S) N:=by
 obtain⟨c,d,a,b⟩:=h
 unfold zh
 split
 ·exact⟨c,d,a,b⟩
 ·refine⟨?_,?_,a,b⟩<;>(dsimp only;split<;>omega)
theorem Z9{S:DS}{N a:Nat}(h:DOk S N)(l:List FS)(c:l.length<=a)(b:∀f∈l,f.safe<=f.data.size/\f.data.size<=a):DOk {S with files:=l} a:=⟨h.1,h.2.1,c,b⟩
theorem QV{l:List FS}{i:Nat}{x f:FS}(h:f∈l.set i x):f=x\/f∈l:=by
 rcases List.mem_or_eq_of_mem_set h with h|h
 ·exact .inr h
 ·exact .inl h
theorem kO{S:DS}{N:Nat}(h:DOk S N)(n s:ByteArray):DOk (zB S n s) (N+s.size+1):=by
 cases d:zj S
 ·have b:=yX h
  cases c:xC S.files n with
  |none=>
   rw[qj d c]
   refine Z9 b _ (by simp;have:=b.2.2.1;omega) (fun f a=>?_)
   rcases List.mem_append.1 a with a|a
   ·have:=b.2.2.2 f a;omega
   ·simp at a;subst a;exact⟨E _,by dsimp only;omega⟩
  |some i=>
   obtain⟨g,e,_,_⟩:=ym c
   rw[yy d c e]
   refine Z9 b _ (by simp;have:=b.2.2.1;omega) (fun f a=>?_)
   have j:=b.2.2.2 g (List.mem_of_getElem? (by rw[zp];exact e))
   rcases QV a with rfl|a
   ·dsimp only;rw[ByteArray.size_append];omega
   ·have:=b.2.2.2 f a;omega
 ·rw[k7 d];exact yH (yX h) (by omega)
theorem Xh{S:DS}{N:Nat}(h:DOk S N)(n:ByteArray):DOk (xB S n) (N+1):=by
 cases b:zj S
 ·have c:=yX h
  cases a:xC S.files n with
  |none=>rw[jw b a];exact yH c (by omega)
  |some i=>
   obtain⟨g,d,_,_⟩:=ym a
   rw[qm b a d]
   refine Z9 c _ (by simp;have:=c.2.2.1;omega) (fun f e=>?_)
   have j:=c.2.2.2 g (List.mem_of_getElem? (by rw[zp];exact d))
   rcases QV e with rfl|e
   ·dsimp only;omega
   ·have:=c.2.2.2 f e;omega
 ·rw[kR b];exact yH (yX h) (by omega)
theorem zat{S:DS}{N:Nat}(h:DOk S N)(n:ByteArray):DOk (qe S n) (N+1):=by
 have a:=yX h
 unfold qe
 split
 ·exact yH a (by omega)
 ·refine Z9 a _ (by have:=List.length_filter_le (fun f:FS=>!eqS f.name n) (zh S).files;have:=a.2.2.1;unfold Z8;omega) (fun f b=>?_)
  have:=a.2.2.2 f ((List.mem_filter.1 b).1);omega
def yb:ByteArray:=⟨#[114,101,99,111,114,100,115]⟩
def yQ:ByteArray:=⟨#[114,101,99,111,114,100,115,46,110,101,119]⟩
def yc:ByteArray:=⟨#[111,112,101,110,105,110,103,115]⟩
def nl:ByteArray:=⟨#[10]⟩
abbrev zbS(w:K)(d:Nat)(S:DS)(a:O):Prop:=zx 111 113 0 w d S a
def xQ(w:K)(b a:O):Prop:=∀k,a.ownBlock=J k->b.ownBlock=J k\/w.1.size<=k
theorem xQ.refl(w:K)(a:O):xQ w a a:=fun _ h=> .inl h
theorem xQ.trans{w e:K}{a b c:O}(h:xQ w a b)(g:w.1.size<=e.1.size)(k:xQ e b c):xQ w a c:=fun i f=>by
 rcases k i f with d|d
 ·exact h i d
 ·exact .inr (Nat.le_trans g d)
theorem ZF{d:Nat}{w c f:K}{a b:O}(g:zo (foot d a) w c)(j:xQ w a b)(i:zo (foot d b) c f):zo (foot d a) w f:=g.trans i (fun k l e=>by
 rcases e with e|e
 ·exact .inl e
 ·rcases j k e with h|h
  ·exact .inr h
  ·omega)
structure JAt(w:K)(j d:Nat)(st:Int)(S:DS)(fs:O):Prop where
 head:w.1[j]?=J (.cells #[.pointer (J ⟨d,0,I⟩),int i64 st] 216 (0,0))
 disk:zbS w d S fs
theorem JAt.apart{w:K}{j d:Nat}{k:Int}{S:DS}{c:O}(h:JAt w j d k S c):¬foot d c j:=fun e=>by
 have a:=h.head
 rcases e with e|e
 ·rw[e,h.disk.head]at a;injection a with a;injection a with g b;exact absurd b (by decide)
 ·obtain⟨f,i⟩:=zH h.disk.row e
  rw[i]at a;injection a with a;injection a with g b;exact absurd b (by decide)
theorem JAt.after{w b:K}{j d:Nat}{e:Int}{S S':DS}{c a:O}(h:JAt w j d e S c)(f:zbS b d S' a)(g:zo (foot d c) w b):JAt b j d e S' a:=⟨g.heap h.head h.apart,f⟩
def VP(S:DS)(a:ByteArray):DS:=if zj S then zB S yb (a++nl)else xB (zB S yb (a++nl)) yb
def vB(S:DS)(a:ByteArray):Bool:=!zj S&&!zj (zB S yb (a++nl))
theorem XZ(r:ByteArray):(r++nl).size=r.size+1:=by rw[ByteArray.size_append];rfl
theorem zhV{w:K}{j d:Nat}{G:Int}{S:DS}{y:O}(h:JAt w j d G S y)(a:ByteArray)(N:Nat)(D:N+a.size+2<=1099511627776)(n:DOk S N):
  Calls prog 107 #[.pointer (J ⟨j,0,I⟩),.string a] w fun e L=>e=.returned (.bool (vB S a))/\∃g,JAt L j d G (VP S a) g/\zo (foot d y) w L/\xQ w y g:=by
 have B:=XZ a
 have q:=zd (ZA 0 d S y yb (a++nl) w N (by omega) n (by omega) (E _) h.disk)
 have c:=kO n yb (a++nl)
 rw[B]at c
 have x:=fun W g (M:zbS W d (zB S yb (a++nl)) g)=>zd (K7 0 d (zB S yb (a++nl)) g yb W _ (by omega) c M)
 have T:w.cell? ⟨j,0,I⟩=J (.pointer (J ⟨d,0,I⟩)):=by rw[xP h.head];rfl
 have P:=za h.head
 have H:=zd h
 have Q:a.size<=1099511627776:=by omega
 unfold VP vB
 generalize s:zB S yb (a++nl)=R at*
 unfold yb nl at q
 unfold yb at x
 cases v:zj S
 ·rw[v]at q
  clear h n c B D s
  go_enter func107,ntmps107
  go_wp2_with(first
   |(go_at_call 126;refine(ud q).mono ?_;rintro e C ⟨rfl,l,f,b,i⟩;have m:=(ud H).after f b;have U:C.cell? ⟨j,0,I⟩=J (.pointer (J ⟨d,0,I⟩)):=(by rw[xP m.head];rfl);have F:=za m.head;have A:=x C l f;have o:=zd m;have p:=zd b;have k:=zd i;clear m f b i x)
   |(go_at_call 127;refine(ud A).mono ?_;rintro e V ⟨rfl,t,u⟩;have z:=zd t;have r:=zd u;clear t u))
  go_ret
  exact⟨by simp,l,(ud o).after (ud z) (ud r),ZF (ud p) (ud k) (ud r),ud k⟩
 ·rw[v]at q
  clear h n c B D s x
  go_enter func107,ntmps107
  go_wp2_with(go_at_call 126;refine(ud q).mono ?_;rintro e C ⟨rfl,l,f,b,i⟩;have o:=zd ((ud H).after f b);have p:=zd b;have k:=zd i;clear f b i)
  go_ret
  exact⟨by simp,l,ud o,ud p,ud k⟩
def zeO(S:DS):Bool:=(xC S.files yQ).isSome&&zj S
def Kg(S:DS):DS:=if(xC S.files yQ).isSome then qe S yQ else S
def zag(S:DS)(a:ByteArray):DS:=zB (Kg S) yQ (a++nl)
def zbw(S:DS)(a:ByteArray):DS:=xB (zag S a) yQ
def ziu(S:DS)(a:ByteArray):DS:=xO (zbw S a) yQ yb
def zbx(S:DS)(a:ByteArray):DS:=if zeO S then Kg S else if zj (Kg S)then zag S a else if zj (zag S a)then zbw S a else ziu S a
def Qz(S:DS)(a:ByteArray):Bool:=!zeO S&&!zj (Kg S)&&!zj (zag S a)&&!zj (zbw S a)
def zah(S:DS)(a:ByteArray)(b:Int):Int:=if zeO S then b else a.size+1
theorem zeQ{S:DS}{N:Nat}(h:DOk S N):DOk (Kg S) (N+1):=by
 unfold Kg;split
 ·exact zat h _
 ·exact yH h (by omega)
theorem JAt.setStart{w:K}{j d:Nat}{g:Int}{S:DS}{a:O}(h:JAt w j d g S a)(n:Int):JAt (w.setCell ⟨j,1,I⟩ (int i64 n)) j d n S a/\zo (fun k=>k=j) w (w.setCell ⟨j,1,I⟩ (int i64 n)):=by
 have b:zo (fun k=>k=j) w (w.setCell ⟨j,1,I⟩ (int i64 n)):=zo.setCell (f:=fun k=>k=j) (zo.refl _ _) (p:=⟨j,1,I⟩) (fun _=>rfl) _
 exact⟨⟨zka h.head _,h.disk.kept b (fun k c e=>by subst e;exact h.apart c)⟩,b⟩
def vM(j d:Nat)(a:O)(k:Nat):Prop:=k=j\/foot d a k
theorem zw{j d:Nat}{w c f:K}{a b:O}(g:zo (vM j d a) w c)(l:xQ w a b)(i:zo (vM j d b) c f):zo (vM j d a) w f:=g.trans i (fun k m e=>by
 rcases e with e|e|e
 ·exact .inl e
 ·exact .inr (.inl e)
 ·rcases l k e with h|h
  ·exact .inr (.inr h)
  ·omega)
theorem jf{j d:Nat}{a:O}{w b:K}(h:zo (foot d a) w b):zo (vM j d a) w b:=h.mono (fun k _ e=> .inr e)
def JEnd(w e:K)(j d:Nat)(c:O)(b:Int)(S':DS):Prop:=∃a,JAt e j d b S' a/\zo (vM j d c) w e/\xQ w c a
theorem zdQ{w:K}{j d:Nat}{st:Int}{S:DS}{V:O}(h:JAt w j d st S V)(i:ByteArray)(N:Nat)(hN:N+i.size+10<=1099511627776)(aa:DOk S N):
  Calls prog 133 #[.pointer (J ⟨j,0,I⟩),.string i] w fun e w'=>e=.returned (.bool (Qz S i))/\JEnd w w' j d V (zah S i st) (zbx S i):=by
 have hr:=XZ i
 have a7:=zeQ aa
 have a8:DOk (zag S i) (N+1+(i.size+1)+1):=by rw[<-hr];exact kO a7 _ _
 have ab:DOk (zbw S i) (N+1+(i.size+1)+1+1):=Xh a8 _
 have af:i.size<=1099511627776:=by omega
 have HH:=zd (zhM 0 d S V yQ w N (by omega) aa.2.2.1 h.disk)
 have HR:=zd (zbu 0 d S V yQ w N (by omega) aa (E _) h.disk)
 have G:=fun W Z (hd:zbS W d (Kg S) Z)=>zd (ZA 0 d (Kg S) Z yQ (i++nl) W _ (by omega) a7 (by omega) (E _) hd)
 have HS:=fun W Z (hd:zbS W d (zag S i) Z)=>zd (K7 0 d (zag S i) Z yQ W _ (by omega) a8 hd)
 have HN:=fun W Z (hd:zbS W d (zbw S i) Z)=>zd (zbv 0 d (zbw S i) Z yQ yb W _ (by omega) ab (E _) hd)
 have E2:Hid (zag S i=zB (Kg S) yQ (i++nl)):=rfl
 have E3:Hid (zbw S i=xB (zag S i) yQ):=rfl
 have E4:Hid (ziu S i=xO (zbw S i) yQ yb):=rfl
 have E1:Hid ((xC S.files yQ).isSome=true->Kg S=qe S yQ):=fun e=>by unfold Kg;rw[if_pos e]
 have E0:Hid ((xC S.files yQ).isSome=false->Kg S=S):=fun e=>by unfold Kg;rw[if_neg (by simp[e])]
 unfold Qz zbx zah zeO
 have c0:w.cell? ⟨j,0,I⟩=J (.pointer (J ⟨d,0,I⟩)):=by rw[xP h.head];rfl
 have ae:=za h.head
 have H:=zd h
 generalize(xC S.files yQ).isSome=hp at*
 generalize Kg S=S1 at*
 generalize zag S i=S2 at*
 generalize zbw S i=S3 at*
 generalize ziu S i=S4 at*
 unfold yQ at HH HR
 unfold yQ nl at G
 unfold yQ at HS
 unfold yQ yb at HN
 clear h aa a7 a8 ab hr hN
 cases hp
 ·clear HR E1
  cases Y:zj S1
  ·cases a5:zj S2
   ·cases a9:zj S3
    ·simp only[Y]at G
     simp only[a5]at HS
     simp only[a9]at HN
     have a:JAt w j d st S1 V:=by rw[ud E0 rfl];exact ud H
     have u:Hid (zo (vM j d V) w w):=zo.refl _ _
     have b:Hid (xQ w V V):=xQ.refl _ _
     obtain⟨c,p⟩:=a.setStart ((i.size:Int)+1)
     have d0:(w.setCell ⟨j,1,I⟩ (int i64 ((i.size:Int)+1))).cell? ⟨j,0,I⟩=J (.pointer (J ⟨d,0,I⟩)):=(by rw[xP c.head];rfl)
     have d1:=Yq a.head 1
     have d2:w.cell? ⟨j,1,I⟩=J (int i64 st):=(by rw[xP a.head];rfl)
     have d3:w.cell? ⟨j,0,I⟩=J (.pointer (J ⟨d,0,I⟩)):=(by rw[xP a.head];rfl)
     have Q:=za a.head
     have R:=za c.head
     have y:=zd c
     have g:=zd (zw (ud u) (ud b) (p.mono (fun k _ e=> .inl e)))
     have x:=G _ _ c.disk
     clear a c p G
     go_enter func133,ntmps133
     go_wp2_with(first
      |(go_at_call 205;refine(ud HH).mono ?_;rintro e w0 ⟨rfl,rfl⟩)
      |(go_at_call 126;refine(ud x).mono ?_;rintro e w3 ⟨rfl,M,o,m,r⟩;have f:=(ud y).after (S':=S2) (by rw[ud E2];exact o) m;have e0:w3.cell? ⟨j,0,I⟩=J (.pointer (J ⟨d,0,I⟩)):=(by rw[xP f.head];rfl);have T:=za f.head;have z:=zd f;have s:=zd (jf (j:=j) m);have n:=zd r;have F:=HS _ _ f.disk;clear f o m r)
      |(go_at_call 127;refine(ud F).mono ?_;rintro e w4 ⟨rfl,v,q⟩;have l:=(ud z).after (S':=S3) (by rw[ud E3];exact v) q;have f0:w4.cell? ⟨j,0,I⟩=J (.pointer (J ⟨d,0,I⟩)):=(by rw[xP l.head];rfl);have a0:=za l.head;have L:=zd l;have A:=zd (jf (j:=j) q);have X:=HN _ _ l.disk;clear l v q)
      |(go_at_call 207;refine(ud X).mono ?_;rintro e w5 ⟨rfl,a4,P,B,U⟩;have a1:=zd ((ud L).after (S':=S4) (by rw[ud E4];exact P) B);have a2:=zd (jf (j:=j) B);have a3:=zd U;clear P B U))
     go_ret
     exact⟨rfl,⟨a4,ud a1,zw (zw (zw (ud g) (ud b) (ud s)) (xQ.trans (ud b) (ud g).size (ud n)) (ud A)) (xQ.trans (ud b) (ud g).size (ud n)) (ud a2),xQ.trans (xQ.trans (ud b) (ud g).size (ud n)) ((zw (zw (ud g) (ud b) (ud s)) (xQ.trans (ud b) (ud g).size (ud n)) (ud A))).size (ud a3)⟩⟩
    ·simp only[Y]at G
     simp only[a5]at HS
     simp only[a9]at HN
     have a:JAt w j d st S1 V:=by rw[ud E0 rfl];exact ud H
     have u:Hid (zo (vM j d V) w w):=zo.refl _ _
     have b:Hid (xQ w V V):=xQ.refl _ _
     obtain⟨c,p⟩:=a.setStart ((i.size:Int)+1)
     have d0:(w.setCell ⟨j,1,I⟩ (int i64 ((i.size:Int)+1))).cell? ⟨j,0,I⟩=J (.pointer (J ⟨d,0,I⟩)):=(by rw[xP c.head];rfl)
     have d1:=Yq a.head 1
     have d2:w.cell? ⟨j,1,I⟩=J (int i64 st):=(by rw[xP a.head];rfl)
     have d3:w.cell? ⟨j,0,I⟩=J (.pointer (J ⟨d,0,I⟩)):=(by rw[xP a.head];rfl)
     have Q:=za a.head
     have R:=za c.head
     have y:=zd c
     have g:=zd (zw (ud u) (ud b) (p.mono (fun k _ e=> .inl e)))
     have x:=G _ _ c.disk
     clear a c p G
     go_enter func133,ntmps133
     go_wp2_with(first
      |(go_at_call 205;refine(ud HH).mono ?_;rintro e w0 ⟨rfl,rfl⟩)
      |(go_at_call 126;refine(ud x).mono ?_;rintro e w3 ⟨rfl,M,o,m,r⟩;have f:=(ud y).after (S':=S2) (by rw[ud E2];exact o) m;have e0:w3.cell? ⟨j,0,I⟩=J (.pointer (J ⟨d,0,I⟩)):=(by rw[xP f.head];rfl);have T:=za f.head;have z:=zd f;have s:=zd (jf (j:=j) m);have n:=zd r;have F:=HS _ _ f.disk;clear f o m r)
      |(go_at_call 127;refine(ud F).mono ?_;rintro e w4 ⟨rfl,v,q⟩;have l:=(ud z).after (S':=S3) (by rw[ud E3];exact v) q;have f0:w4.cell? ⟨j,0,I⟩=J (.pointer (J ⟨d,0,I⟩)):=(by rw[xP l.head];rfl);have a0:=za l.head;have L:=zd l;have A:=zd (jf (j:=j) q);have X:=HN _ _ l.disk;clear l v q)
      |(go_at_call 207;refine(ud X).mono ?_;rintro e w5 ⟨rfl,a4,P,B,U⟩;have a1:=zd ((ud L).after (S':=S4) (by rw[ud E4];exact P) B);have a2:=zd (jf (j:=j) B);have a3:=zd U;clear P B U))
     go_ret
     exact⟨rfl,⟨a4,ud a1,zw (zw (zw (ud g) (ud b) (ud s)) (xQ.trans (ud b) (ud g).size (ud n)) (ud A)) (xQ.trans (ud b) (ud g).size (ud n)) (ud a2),xQ.trans (xQ.trans (ud b) (ud g).size (ud n)) ((zw (zw (ud g) (ud b) (ud s)) (xQ.trans (ud b) (ud g).size (ud n)) (ud A))).size (ud a3)⟩⟩
   ·simp only[Y]at G
    simp only[a5]at HS
    have a:JAt w j d st S1 V:=by rw[ud E0 rfl];exact ud H
    have u:Hid (zo (vM j d V) w w):=zo.refl _ _
    have b:Hid (xQ w V V):=xQ.refl _ _
    obtain⟨c,p⟩:=a.setStart ((i.size:Int)+1)
    have d0:(w.setCell ⟨j,1,I⟩ (int i64 ((i.size:Int)+1))).cell? ⟨j,0,I⟩=J (.pointer (J ⟨d,0,I⟩)):=(by rw[xP c.head];rfl)
    have d1:=Yq a.head 1
    have d2:w.cell? ⟨j,1,I⟩=J (int i64 st):=(by rw[xP a.head];rfl)
    have d3:w.cell? ⟨j,0,I⟩=J (.pointer (J ⟨d,0,I⟩)):=(by rw[xP a.head];rfl)
    have Q:=za a.head
    have R:=za c.head
    have y:=zd c
    have g:=zd (zw (ud u) (ud b) (p.mono (fun k _ e=> .inl e)))
    have x:=G _ _ c.disk
    clear a c p G
    go_enter func133,ntmps133
    go_wp2_with(first
     |(go_at_call 205;refine(ud HH).mono ?_;rintro e w0 ⟨rfl,rfl⟩)
     |(go_at_call 126;refine(ud x).mono ?_;rintro e w3 ⟨rfl,M,o,m,r⟩;have f:=(ud y).after (S':=S2) (by rw[ud E2];exact o) m;have e0:w3.cell? ⟨j,0,I⟩=J (.pointer (J ⟨d,0,I⟩)):=(by rw[xP f.head];rfl);have T:=za f.head;have z:=zd f;have s:=zd (jf (j:=j) m);have n:=zd r;have F:=HS _ _ f.disk;clear f o m r)
     |(go_at_call 127;refine(ud F).mono ?_;rintro e w4 ⟨rfl,v,q⟩;have l:=(ud z).after (S':=S3) (by rw[ud E3];exact v) q;have f0:w4.cell? ⟨j,0,I⟩=J (.pointer (J ⟨d,0,I⟩)):=(by rw[xP l.head];rfl);have a0:=za l.head;have L:=zd l;have A:=zd (jf (j:=j) q);have X:=HN _ _ l.disk;clear l v q))
    go_ret
    exact⟨rfl,⟨M,ud L,(zw (zw (ud g) (ud b) (ud s)) (xQ.trans (ud b) (ud g).size (ud n)) (ud A)),(xQ.trans (ud b) (ud g).size (ud n))⟩⟩
  ·simp only[Y]at G
   have a:JAt w j d st S1 V:=by rw[ud E0 rfl];exact ud H
   have u:Hid (zo (vM j d V) w w):=zo.refl _ _
   have b:Hid (xQ w V V):=xQ.refl _ _
   obtain⟨c,p⟩:=a.setStart ((i.size:Int)+1)
   have d0:(w.setCell ⟨j,1,I⟩ (int i64 ((i.size:Int)+1))).cell? ⟨j,0,I⟩=J (.pointer (J ⟨d,0,I⟩)):=(by rw[xP c.head];rfl)
   have d1:=Yq a.head 1
   have d2:w.cell? ⟨j,1,I⟩=J (int i64 st):=(by rw[xP a.head];rfl)
   have d3:w.cell? ⟨j,0,I⟩=J (.pointer (J ⟨d,0,I⟩)):=(by rw[xP a.head];rfl)
   have Q:=za a.head
   have R:=za c.head
   have y:=zd c
   have g:=zd (zw (ud u) (ud b) (p.mono (fun k _ e=> .inl e)))
   have x:=G _ _ c.disk
   clear a c p G
   go_enter func133,ntmps133
   go_wp2_with(first
    |(go_at_call 205;refine(ud HH).mono ?_;rintro e w0 ⟨rfl,rfl⟩)
    |(go_at_call 126;refine(ud x).mono ?_;rintro e w3 ⟨rfl,M,o,m,r⟩;have f:=(ud y).after (S':=S2) (by rw[ud E2];exact o) m;have e0:w3.cell? ⟨j,0,I⟩=J (.pointer (J ⟨d,0,I⟩)):=(by rw[xP f.head];rfl);have T:=za f.head;have z:=zd f;have s:=zd (jf (j:=j) m);have n:=zd r;have F:=HS _ _ f.disk;clear f o m r))
   go_ret
   exact⟨rfl,⟨M,ud z,(zw (ud g) (ud b) (ud s)),(xQ.trans (ud b) (ud g).size (ud n))⟩⟩
 ·clear E0
  have E5:=zd (ud E1 rfl)
  clear E1
  cases ac:zj S
  ·simp only[ac]at HR
   cases Y:zj S1
   ·cases a5:zj S2
    ·cases a9:zj S3
     ·simp only[Y]at G
      simp only[a5]at HS
      simp only[a9]at HN
      go_enter func133,ntmps133
      go_wp2_with(first
       |(go_at_call 205;refine(ud HH).mono ?_;rintro e w0 ⟨rfl,rfl⟩)
       |(go_at_call 206;refine(ud HR).mono ?_;rintro e w1 ⟨rfl,a6,C,t,D⟩;have a:=(ud H).after (S':=S1) (by rw[ud E5];exact C) t;have u:=zd (jf (j:=j) t);have b:=zd D;clear C t D;obtain⟨c,p⟩:=a.setStart ((i.size:Int)+1);have d0:(w1.setCell ⟨j,1,I⟩ (int i64 ((i.size:Int)+1))).cell? ⟨j,0,I⟩=J (.pointer (J ⟨d,0,I⟩)):=(by rw[xP c.head];rfl);have d1:=Yq a.head 1;have d2:w1.cell? ⟨j,1,I⟩=J (int i64 st):=(by rw[xP a.head];rfl);have d3:w1.cell? ⟨j,0,I⟩=J (.pointer (J ⟨d,0,I⟩)):=(by rw[xP a.head];rfl);have Q:=za a.head;have R:=za c.head;have y:=zd c;have g:=zd (zw (ud u) (ud b) (p.mono (fun k _ e=> .inl e)));have x:=G _ _ c.disk;clear a c p G)
       |(go_at_call 126;refine(ud x).mono ?_;rintro e w3 ⟨rfl,M,o,m,r⟩;have f:=(ud y).after (S':=S2) (by rw[ud E2];exact o) m;have e0:w3.cell? ⟨j,0,I⟩=J (.pointer (J ⟨d,0,I⟩)):=(by rw[xP f.head];rfl);have T:=za f.head;have z:=zd f;have s:=zd (jf (j:=j) m);have n:=zd r;have F:=HS _ _ f.disk;clear f o m r)
       |(go_at_call 127;refine(ud F).mono ?_;rintro e w4 ⟨rfl,v,q⟩;have l:=(ud z).after (S':=S3) (by rw[ud E3];exact v) q;have f0:w4.cell? ⟨j,0,I⟩=J (.pointer (J ⟨d,0,I⟩)):=(by rw[xP l.head];rfl);have a0:=za l.head;have L:=zd l;have A:=zd (jf (j:=j) q);have X:=HN _ _ l.disk;clear l v q)
       |(go_at_call 207;refine(ud X).mono ?_;rintro e w5 ⟨rfl,a4,P,B,U⟩;have a1:=zd ((ud L).after (S':=S4) (by rw[ud E4];exact P) B);have a2:=zd (jf (j:=j) B);have a3:=zd U;clear P B U))
      go_ret
      exact⟨rfl,⟨a4,ud a1,zw (zw (zw (ud g) (ud b) (ud s)) (xQ.trans (ud b) (ud g).size (ud n)) (ud A)) (xQ.trans (ud b) (ud g).size (ud n)) (ud a2),xQ.trans (xQ.trans (ud b) (ud g).size (ud n)) ((zw (zw (ud g) (ud b) (ud s)) (xQ.trans (ud b) (ud g).size (ud n)) (ud A))).size (ud a3)⟩⟩
     ·simp only[Y]at G
      simp only[a5]at HS
      simp only[a9]at HN
      go_enter func133,ntmps133
      go_wp2_with(first
       |(go_at_call 205;refine(ud HH).mono ?_;rintro e w0 ⟨rfl,rfl⟩)
       |(go_at_call 206;refine(ud HR).mono ?_;rintro e w1 ⟨rfl,a6,C,t,D⟩;have a:=(ud H).after (S':=S1) (by rw[ud E5];exact C) t;have u:=zd (jf (j:=j) t);have b:=zd D;clear C t D;obtain⟨c,p⟩:=a.setStart ((i.size:Int)+1);have d0:(w1.setCell ⟨j,1,I⟩ (int i64 ((i.size:Int)+1))).cell? ⟨j,0,I⟩=J (.pointer (J ⟨d,0,I⟩)):=(by rw[xP c.head];rfl);have d1:=Yq a.head 1;have d2:w1.cell? ⟨j,1,I⟩=J (int i64 st):=(by rw[xP a.head];rfl);have d3:w1.cell? ⟨j,0,I⟩=J (.pointer (J ⟨d,0,I⟩)):=(by rw[xP a.head];rfl);have Q:=za a.head;have R:=za c.head;have y:=zd c;have g:=zd (zw (ud u) (ud b) (p.mono (fun k _ e=> .inl e)));have x:=G _ _ c.disk;clear a c p G)
       |(go_at_call 126;refine(ud x).mono ?_;rintro e w3 ⟨rfl,M,o,m,r⟩;have f:=(ud y).after (S':=S2) (by rw[ud E2];exact o) m;have e0:w3.cell? ⟨j,0,I⟩=J (.pointer (J ⟨d,0,I⟩)):=(by rw[xP f.head];rfl);have T:=za f.head;have z:=zd f;have s:=zd (jf (j:=j) m);have n:=zd r;have F:=HS _ _ f.disk;clear f o m r)
       |(go_at_call 127;refine(ud F).mono ?_;rintro e w4 ⟨rfl,v,q⟩;have l:=(ud z).after (S':=S3) (by rw[ud E3];exact v) q;have f0:w4.cell? ⟨j,0,I⟩=J (.pointer (J ⟨d,0,I⟩)):=(by rw[xP l.head];rfl);have a0:=za l.head;have L:=zd l;have A:=zd (jf (j:=j) q);have X:=HN _ _ l.disk;clear l v q)
       |(go_at_call 207;refine(ud X).mono ?_;rintro e w5 ⟨rfl,a4,P,B,U⟩;have a1:=zd ((ud L).after (S':=S4) (by rw[ud E4];exact P) B);have a2:=zd (jf (j:=j) B);have a3:=zd U;clear P B U))
      go_ret
      exact⟨rfl,⟨a4,ud a1,zw (zw (zw (ud g) (ud b) (ud s)) (xQ.trans (ud b) (ud g).size (ud n)) (ud A)) (xQ.trans (ud b) (ud g).size (ud n)) (ud a2),xQ.trans (xQ.trans (ud b) (ud g).size (ud n)) ((zw (zw (ud g) (ud b) (ud s)) (xQ.trans (ud b) (ud g).size (ud n)) (ud A))).size (ud a3)⟩⟩
    ·simp only[Y]at G
     simp only[a5]at HS
     go_enter func133,ntmps133
     go_wp2_with(first
      |(go_at_call 205;refine(ud HH).mono ?_;rintro e w0 ⟨rfl,rfl⟩)
      |(go_at_call 206;refine(ud HR).mono ?_;rintro e w1 ⟨rfl,a6,C,t,D⟩;have a:=(ud H).after (S':=S1) (by rw[ud E5];exact C) t;have u:=zd (jf (j:=j) t);have b:=zd D;clear C t D;obtain⟨c,p⟩:=a.setStart ((i.size:Int)+1);have d0:(w1.setCell ⟨j,1,I⟩ (int i64 ((i.size:Int)+1))).cell? ⟨j,0,I⟩=J (.pointer (J ⟨d,0,I⟩)):=(by rw[xP c.head];rfl);have d1:=Yq a.head 1;have d2:w1.cell? ⟨j,1,I⟩=J (int i64 st):=(by rw[xP a.head];rfl);have d3:w1.cell? ⟨j,0,I⟩=J (.pointer (J ⟨d,0,I⟩)):=(by rw[xP a.head];rfl);have Q:=za a.head;have R:=za c.head;have y:=zd c;have g:=zd (zw (ud u) (ud b) (p.mono (fun k _ e=> .inl e)));have x:=G _ _ c.disk;clear a c p G)
      |(go_at_call 126;refine(ud x).mono ?_;rintro e w3 ⟨rfl,M,o,m,r⟩;have f:=(ud y).after (S':=S2) (by rw[ud E2];exact o) m;have e0:w3.cell? ⟨j,0,I⟩=J (.pointer (J ⟨d,0,I⟩)):=(by rw[xP f.head];rfl);have T:=za f.head;have z:=zd f;have s:=zd (jf (j:=j) m);have n:=zd r;have F:=HS _ _ f.disk;clear f o m r)
      |(go_at_call 127;refine(ud F).mono ?_;rintro e w4 ⟨rfl,v,q⟩;have l:=(ud z).after (S':=S3) (by rw[ud E3];exact v) q;have f0:w4.cell? ⟨j,0,I⟩=J (.pointer (J ⟨d,0,I⟩)):=(by rw[xP l.head];rfl);have a0:=za l.head;have L:=zd l;have A:=zd (jf (j:=j) q);have X:=HN _ _ l.disk;clear l v q))
     go_ret
     exact⟨rfl,⟨M,ud L,(zw (zw (ud g) (ud b) (ud s)) (xQ.trans (ud b) (ud g).size (ud n)) (ud A)),(xQ.trans (ud b) (ud g).size (ud n))⟩⟩
   ·simp only[Y]at G
    go_enter func133,ntmps133
    go_wp2_with(first
     |(go_at_call 205;refine(ud HH).mono ?_;rintro e w0 ⟨rfl,rfl⟩)
     |(go_at_call 206;refine(ud HR).mono ?_;rintro e w1 ⟨rfl,a6,C,t,D⟩;have a:=(ud H).after (S':=S1) (by rw[ud E5];exact C) t;have u:=zd (jf (j:=j) t);have b:=zd D;clear C t D;obtain⟨c,p⟩:=a.setStart ((i.size:Int)+1);have d0:(w1.setCell ⟨j,1,I⟩ (int i64 ((i.size:Int)+1))).cell? ⟨j,0,I⟩=J (.pointer (J ⟨d,0,I⟩)):=(by rw[xP c.head];rfl);have d1:=Yq a.head 1;have d2:w1.cell? ⟨j,1,I⟩=J (int i64 st):=(by rw[xP a.head];rfl);have d3:w1.cell? ⟨j,0,I⟩=J (.pointer (J ⟨d,0,I⟩)):=(by rw[xP a.head];rfl);have Q:=za a.head;have R:=za c.head;have y:=zd c;have g:=zd (zw (ud u) (ud b) (p.mono (fun k _ e=> .inl e)));have x:=G _ _ c.disk;clear a c p G)
     |(go_at_call 126;refine(ud x).mono ?_;rintro e w3 ⟨rfl,M,o,m,r⟩;have f:=(ud y).after (S':=S2) (by rw[ud E2];exact o) m;have e0:w3.cell? ⟨j,0,I⟩=J (.pointer (J ⟨d,0,I⟩)):=(by rw[xP f.head];rfl);have T:=za f.head;have z:=zd f;have s:=zd (jf (j:=j) m);have n:=zd r;have F:=HS _ _ f.disk;clear f o m r))
    go_ret
    exact⟨rfl,⟨M,ud z,(zw (ud g) (ud b) (ud s)),(xQ.trans (ud b) (ud g).size (ud n))⟩⟩
  ·simp only[ac]at HR
   go_enter func133,ntmps133
   go_wp2_with(first
    |(go_at_call 205;refine(ud HH).mono ?_;rintro e w0 ⟨rfl,rfl⟩)
    |(go_at_call 206;refine(ud HR).mono ?_;rintro e w1 ⟨rfl,a6,C,t,D⟩;have a:=(ud H).after (S':=S1) (by rw[ud E5];exact C) t;have u:=zd (jf (j:=j) t);have b:=zd D;clear C t D;have ad:=zd a;clear a))
   go_ret
   exact⟨rfl,⟨a6,ud ad,ud u,ud b⟩⟩
def YC(S:DS)(a:Int):Bool:=decide (2*a+4096<(yD S yb).size)
theorem Js{S:DS}{N:Nat}(h:DOk S N)(b:ByteArray):(yD S b).size<=N:=by
 unfold yD
 cases c:xC S.files b with
 |none=>exact E _
 |some i=>
  obtain⟨f,a,_,_⟩:=ym c
  simp only[a]
  exact(h.2.2.2 f (List.mem_of_getElem? a)).2
theorem zfP{w:K}{j d:Nat}{a:Int}{S:DS}{n:O}(h:JAt w j d a S n)(N:Nat)(o:N<=1099511627776)(b:DOk S N)(k:0<=a/\a<=1099511627776):
  Calls prog 110 #[.pointer (J ⟨j,0,I⟩)] w fun e f=>e=.returned (.bool (YC S a))/\Below w.1.size w f:=by
 have c:=fun W (p:Below w.1.size w W)=>zd (YP 0 d S n yb W N o b.2.2.1 (h.disk.later p))
 have l:=Js b yb
 have u:w.cell? ⟨j,0,I⟩=J (.pointer (J ⟨d,0,I⟩)):=by rw[xP h.head];rfl
 have v:w.cell? ⟨j,1,I⟩=J (int i64 a):=by rw[xP h.head];rfl
 have q:=za h.head
 obtain⟨t,m⟩:∃t,yD S yb=t:=⟨_,rfl⟩
 unfold YC
 rw[m]at l ⊢
 simp only[m]at c
 unfold yb at c
 have g:=c w (Below.refl _ _)
 have i:=c w.drew (Below.refl _ _).drew
 obtain⟨r,s⟩:=k
 clear h b c m
 have x:IntKind.i64.wrap (2*a)=2*a:=by rw[IntKind.wrap_i64];omega
 have y:IntKind.i64.wrap (2*a+4096)=2*a+4096:=by rw[IntKind.wrap_i64];omega
 go_enter func110,ntmps110
 go_wp2_with fail
 go_region_held3 (fun f=>f.cell? ⟨j,0,I⟩=J (.pointer (J ⟨d,0,I⟩))/\f.cell? ⟨j,1,I⟩=J (int i64 a)) (go_keep) (first
  |(go_at_call 128;(first|(with_reducible refine(ud g).mono ?_)|(with_reducible refine(ud i).mono ?_));rintro e V ⟨rfl,rfl⟩))
 all_goals go_wp2_with fail
 all_goals go_ret
 all_goals exact⟨by simp,(Below.refl _ _).drew⟩
def Kf:ByteArray:=⟨#[43]⟩
def Qq(S:DS):DS:=if zj S then zB S yc Kf else xB (zB S yc Kf) yc
def VV(S:DS):Bool:=!zj S&&!zj (zB S yc Kf)
def zco(S:DS):Int:=if VV S then(yD (xB (zB S yc Kf) yc) yc).size else 0
theorem zcp{w:K}{d:Nat}{S:DS}{B:O}(h:zbS w d S B)(N:Nat)(U:N+10<=1099511627776)(v:DOk S N):
  Calls prog 66 #[.pointer (J ⟨d,0,I⟩)] w fun e Q=>e=.returned (.tuple #[int i64 (zco S),.bool (VV S)])/\∃a,zbS Q d (Qq S) a/\zo (foot d B) w Q/\xQ w B a:=by
 have P:Kf.size=1:=rfl
 have p:=zd (ZA 0 d S B yc Kf w N (by omega) v (by omega) (E _) h)
 have m:DOk (zB S yc Kf) (N+1+1):=by have:=kO v yc Kf;rwa[P]at this
 have n:DOk (xB (zB S yc Kf) yc) (N+1+1+1):=Xh m _
 have s:=fun W a (H:zbS W d (zB S yc Kf) a)=>zd (K7 0 d (zB S yc Kf) a yc W _ (by omega) m H)
 have y:=fun W a (H:zbS W d (xB (zB S yc Kf) yc) a)=>zd (YP 0 d (xB (zB S yc Kf) yc) a yc W _ (by omega) n.2.2.1 H)
 have A:=Js n yc
 unfold zco VV Qq
 generalize zB S yc Kf=M at*
 obtain⟨G,o⟩:∃G,xB M yc=G:=⟨_,rfl⟩
 have T:=zd o
 rw[o]at A ⊢
 simp only[o]at y s
 obtain⟨t,L⟩:∃t,yD G yc=t:=⟨_,rfl⟩
 rw[L]at A ⊢
 simp only[L]at y
 unfold yc Kf at p
 unfold yc at y s
 clear v m n P L o
 cases x:zj S
 ·cases z:zj M
  ·simp only[x]at p
   simp only[z]at s
   clear h
   go_enter func66,ntmps66
   go_wp2_with(first
    |(go_at_call 126;refine(ud p).mono ?_;rintro e C ⟨rfl,b,c,f,g⟩;have u:=s C b c;have k:=zd f;have i:=zd g;clear c f g)
    |(go_at_call 127;refine(ud u).mono ?_;rintro e R ⟨rfl,j,l⟩;have F:=y R b j;have q:=zd j;have r:=zd l;clear j l)
    |(go_at_call 128;refine(ud F).mono ?_;rintro e V ⟨rfl,rfl⟩))
   go_ret2
   exact⟨rfl,b,ud q,ZF (ud k) (ud i) (ud r),ud i⟩
  ·simp only[x]at p
   simp only[z]at s
   clear h y
   go_enter func66,ntmps66
   go_wp2_with(first
    |(go_at_call 126;refine(ud p).mono ?_;rintro e C ⟨rfl,b,c,f,g⟩;have u:=s C b c;have k:=zd f;have i:=zd g;clear c f g)
    |(go_at_call 127;refine(ud u).mono ?_;rintro e R ⟨rfl,j,l⟩;have q:=zd j;have r:=zd l;clear j l))
   go_ret2
   exact⟨rfl,b,ud q,ZF (ud k) (ud i) (ud r),ud i⟩
 ·simp only[x]at p
  clear h y s
  go_enter func66,ntmps66
  go_wp2_with(first
   |(go_at_call 126;refine(ud p).mono ?_;rintro e C ⟨rfl,b,c,f,g⟩;have D:=zd c;have k:=zd f;have i:=zd g;clear c f g))
  go_ret2
  exact⟨rfl,b,ud D,ud k,ud i⟩
def zgO(t:ByteArray):Nat:=(Lib.lastIndexByte t 10+1).toNat
theorem zhA(t:ByteArray):Lib.lastIndexByte t 10=(zgO t:Int)-1/\zgO t<=t.size:=by
 unfold zgO Lib.lastIndexByte
 rcases Lib.lastIdx_spec t 10 t.size with⟨h,-⟩|⟨i,a,h,-⟩
 ·rw[h];exact⟨rfl,E _⟩
 ·rw[h];constructor<;>omega
theorem zjD(s:ByteArray)(b:s.size<=1099511627776)(w:K):Calls prog 132 #[.string s,.int .u8 10] w fun e a=>e=.returned (int i64 (Lib.lastIndexByte s 10))/\a=w:=
 Any.strings_LastIndexByte Tryz.layLI s 10 (by omega) w
theorem zdq(s:ByteArray)(w:K):Calls prog 131 #[.string s] w fun e a=>e=.returned (.func (.func 202) #[] #[.pointer (J ⟨w.1.size,0,I⟩)])/\a=w.alloc (.cells #[.string s] 9):=by
 go_enter func131,ntmps131
 go_wp2_with fail
 go_ret
 exact⟨rfl,rfl⟩
theorem Jt{w:K}{d:Nat}{S:DS}{f:O}(h:zbS w d S f)(N:Nat)(j:N<=1099511627776)(a:DOk S N):
  Calls prog 72 #[.pointer (J ⟨d,0,I⟩)] w fun e l=>e=.returned (.func (.func 202) #[] #[.pointer (J ⟨w.1.size,0,I⟩)])/\l=w.alloc (.cells #[.string ((yD S yb).extract 0 (zgO (yD S yb)))] 9):=by
 have c:=zd (YP 0 d S f yb w N j a.2.2.1 h)
 have k:=Js a yb
 generalize yD S yb=t at*
 obtain⟨g,o⟩:=zhA t
 have b:=zd (zjD t (by omega) w)
 rw[g]at b
 generalize zgO t=n at*
 have i:=zd (zdq (t.extract 0 n) w)
 unfold yb at c
 clear h a g
 have m:((n:Int)-1+1)=n:=by omega
 go_enter func72,ntmps72
 go_wp2_with(first
  |(go_at_call 128;refine(ud c).mono ?_;rintro e p ⟨rfl,rfl⟩)
  |(go_at_call 132;refine(ud b).mono ?_;rintro e q ⟨rfl,rfl⟩)
  |(go_at_call 131;refine(ud i).mono ?_;rintro e r ⟨rfl,rfl⟩))
 go_ret
 exact⟨rfl,rfl⟩
def yB(e:Nat):ByteArray:=⟨Array.replicate e 43⟩
theorem zbo(e:Nat):(yB e).size=e:=by simp[yB,ByteArray.size]
def jS(e:Nat)(a:ByteArray):DS:=⟨[⟨yc,yB e,e⟩,⟨yb,a,a.size⟩],-1,false⟩
def jS0(e:Nat):DS:=⟨[⟨yc,yB e,e⟩],-1,false⟩
theorem bl(a:Array UInt8):(⟨a⟩:ByteArray).toList=a.toList:=by rw[ByteArray.toList_eq]
theorem ZD(a:ByteArray):eqS a a=true:=by simp[eqS]
theorem zfn:eqS yc yb=false:=by simp[eqS,yc,yb,bl]
theorem zaJ:eqS yc yQ=false:=by simp[eqS,yc,yQ,bl]
theorem zjv:eqS yb yQ=false:=by simp[eqS,yb,yQ,bl]
theorem zju:eqS yQ yb=false:=by simp[eqS,yb,yQ,bl]
theorem yp{S:DS}(h:S.left= -1)(a:S.down=false):zj S=false/\zh S=S:=by
 have b:zj S=false:=by unfold zj;rw[h,a];rfl
 refine⟨b,?_⟩
 obtain⟨f,l,d⟩:=S
 dsimp only at h a
 subst h a
 unfold zh;rw[b];rfl
theorem Q9(e:Nat)(a:ByteArray)(k:Nat)(r:List FS):xC (⟨yc,yB e,e⟩::⟨yb,a,k⟩::r) yb=J 1:=by
 unfold xC xc xc;rw[zfn,ZD];rfl
theorem Jq(e:Nat)(a:ByteArray)(k:Nat):xC [⟨yc,yB e,e⟩,⟨yb,a,k⟩] yQ=I:=by
 unfold xC xc xc xc;rw[zaJ,zjv];rfl
theorem Vf(e:Nat)(a c:ByteArray)(k b:Nat):xC [⟨yc,yB e,e⟩,⟨yb,a,k⟩,⟨yQ,c,b⟩] yQ=J 2:=by
 unfold xC xc xc xc;rw[zaJ,zjv,ZD];rfl
theorem Vg(e:Nat):xC [⟨yc,yB e,e⟩] yQ=I:=by
 unfold xC xc xc;rw[zaJ];rfl
theorem Vh(e:Nat):xC [⟨yc,yB e,e⟩] yb=I:=by
 unfold xC xc xc;rw[zfn];rfl
theorem Y5(e:Nat)(b:ByteArray)(a:Nat):xC [⟨yc,yB e,e⟩,⟨yQ,b,a⟩] yQ=J 1:=by
 unfold xC xc xc;rw[zaJ,ZD];rfl
theorem zis(e:Nat)(a:ByteArray):yD (jS e a) yb=a:=by unfold yD jS;rw[Q9];rfl
theorem zgg(e:Nat):yD (jS0 e) yb=⟨#[]⟩:=by unfold yD jS0;rw[Vh]
theorem zjh{e N:Nat}{a:ByteArray}(c:e<=N)(d:a.size<=N)(g:2<=N):DOk (jS e a) N:=by
 refine⟨by show(-1:Int)<= -1;omega,by show(-1:Int)<=9223372036854775807;omega,g,fun f b=>?_⟩
 simp only[jS,List.mem_cons,List.not_mem_nil,or_false]at b
 rcases b with rfl|rfl
 ·rw[zbo];exact⟨Nat.le_refl _,c⟩
 ·exact⟨Nat.le_refl _,d⟩
theorem zgX(e:Nat)(a b:ByteArray):VP (jS e a) b=jS e (a++(b++nl))/\vB (jS e a) b=true:=by
 obtain⟨d,h⟩:=yp (S:=jS e a) rfl rfl
 have j:zB (jS e a) yb (b++nl)=⟨[⟨yc,yB e,e⟩,⟨yb,a++(b++nl),a.size⟩],-1,false⟩:=by
  rw[yy (i:=1) (f:=⟨yb,a,a.size⟩) d (Q9 e a a.size []) rfl,h];rfl
 obtain⟨c,g⟩:=yp (S:=⟨[⟨yc,yB e,e⟩,⟨yb,a++(b++nl),a.size⟩],-1,false⟩) rfl rfl
 unfold VP vB
 rw[d,j,c]
 refine⟨?_,rfl⟩
 simp only[Bool.false_eq_true,if_false]
 rw[qm (i:=1) (f:=⟨yb,a++(b++nl),a.size⟩) c (Q9 e (a++(b++nl)) a.size []) rfl,g];rfl
theorem zjO(e:Nat)(a b:ByteArray):zbx (jS e a) b=jS e (b++nl)/\Qz (jS e a) b=true/\zeO (jS e a)=false:=by
 have c:xC (jS e a).files yQ=I:=Jq e a a.size
 have q:zeO (jS e a)=false:=by unfold zeO;rw[c];rfl
 have j:Kg (jS e a)=jS e a:=by unfold Kg;rw[c];rfl
 obtain⟨d,m⟩:=yp (S:=jS e a) rfl rfl
 have k:zag (jS e a) b=⟨[⟨yc,yB e,e⟩,⟨yb,a,a.size⟩,⟨yQ,b++nl,0⟩],-1,false⟩:=by
  unfold zag;rw[j,qj d c,m];rfl
 obtain⟨g,n⟩:=yp (S:=⟨[⟨yc,yB e,e⟩,⟨yb,a,a.size⟩,⟨yQ,b++nl,0⟩],-1,false⟩) rfl rfl
 have l:zbw (jS e a) b=⟨[⟨yc,yB e,e⟩,⟨yb,a,a.size⟩,⟨yQ,b++nl,(b++nl).size⟩],-1,false⟩:=by
  unfold zbw;rw[k,qm (i:=2) (f:=⟨yQ,b++nl,0⟩) g (Vf e a _ _ _) rfl,n];rfl
 obtain⟨h,o⟩:=yp (S:=⟨[⟨yc,yB e,e⟩,⟨yb,a,a.size⟩,⟨yQ,b++nl,(b++nl).size⟩],-1,false⟩) rfl rfl
 have p:ziu (jS e a) b=jS e (b++nl):=by
  unfold ziu
  rw[l,kE (i:=2) (f:=⟨yQ,b++nl,(b++nl).size⟩) h (Vf e a _ _ _) rfl zju,o]
  simp[yg,zfn,zaJ,ZD,jS]
 unfold zbx Qz
 rw[q,j,k,l,d,g,h,p]
 exact⟨rfl,rfl,rfl⟩
theorem zdR(e:Nat)(a:ByteArray):zbx (jS0 e) a=jS e (a++nl)/\Qz (jS0 e) a=true/\zeO (jS0 e)=false:=by
 have b:xC (jS0 e).files yQ=I:=Vg e
 have p:zeO (jS0 e)=false:=by unfold zeO;rw[b];rfl
 have h:Kg (jS0 e)=jS0 e:=by unfold Kg;rw[b];rfl
 obtain⟨c,l⟩:=yp (S:=jS0 e) rfl rfl
 have j:zag (jS0 e) a=⟨[⟨yc,yB e,e⟩,⟨yQ,a++nl,0⟩],-1,false⟩:=by
  unfold zag;rw[h,qj c b,l];rfl
 obtain⟨d,m⟩:=yp (S:=⟨[⟨yc,yB e,e⟩,⟨yQ,a++nl,0⟩],-1,false⟩) rfl rfl
 have k:zbw (jS0 e) a=⟨[⟨yc,yB e,e⟩,⟨yQ,a++nl,(a++nl).size⟩],-1,false⟩:=by
  unfold zbw;rw[j,qm (i:=1) (f:=⟨yQ,a++nl,0⟩) d (Y5 e _ _) rfl,m];rfl
 obtain⟨g,n⟩:=yp (S:=⟨[⟨yc,yB e,e⟩,⟨yQ,a++nl,(a++nl).size⟩],-1,false⟩) rfl rfl
 have o:ziu (jS0 e) a=jS e (a++nl):=by
  unfold ziu
  rw[k,kE (i:=1) (f:=⟨yQ,a++nl,(a++nl).size⟩) g (Y5 e _ _) rfl zju,n]
  simp[yg,zfn,zaJ,ZD,jS]
 unfold zbx Qz
 rw[p,h,j,k,c,d,g,o]
 exact⟨rfl,rfl,rfl⟩
theorem zho:Qq Xd=jS0 1/\VV Xd=true/\zco Xd=1:=by
 obtain⟨a,h⟩:=yp (S:=Xd) rfl rfl
 have b:zB Xd yc Kf=⟨[⟨yc,yB 1,0⟩],-1,false⟩:=by
  rw[qj a rfl,h];rfl
 obtain⟨c,j⟩:=yp (S:=⟨[⟨yc,yB 1,0⟩],-1,false⟩) rfl rfl
 have g:∀k,xC [⟨yc,yB 1,k⟩] yc=J 0:=fun k=>by unfold xC xc;rw[ZD];rfl
 have d:xB ⟨[⟨yc,yB 1,0⟩],-1,false⟩ yc=jS0 1:=by
  rw[qm (i:=0) (f:=⟨yc,yB 1,0⟩) c (g 0) rfl,j];rfl
 have e:VV Xd=true:=by unfold VV;rw[b,a,c];rfl
 refine⟨by unfold Qq;rw[a,b,d];rfl,e,?_⟩
 unfold zco
 rw[e,b,d]
 unfold yD jS0
 rw[g 1]
 rfl
end Go.Proofs.YtndhpgciopcncaaGreatDoor
