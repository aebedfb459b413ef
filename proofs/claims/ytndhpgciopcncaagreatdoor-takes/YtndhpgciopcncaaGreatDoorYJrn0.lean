import Derived.Test.YtndhpgciopcncaaGreatDoorYDisk7
open Option renaming none → I
open Option renaming some → J
open Go renaming Value → K
open Go renaming World → O
open Nat renaming zero_le → E
open Go.Value (int)
open Go.IntKind (i64)
set_option linter.unusedVariables false
set_option maxRecDepth 8000
set_option maxHeartbeats 8000000
open Go.Proofs.Tryz
namespace Go.Proofs.YtndhpgciopcncaaGreatDoor
open Go.RowKit
theorem yR{S:DS}{N a:Nat}(h:DOk S N)(b:N<=a):DOk S a:=⟨h.1,h.2.1,Nat.le_trans h.2.2.1 b,fun f c=>⟨(h.2.2.2 f c).1,Nat.le_trans (h.2.2.2 f c).2 b⟩⟩
theorem ki{S:DS}{N:Nat}(h:DOk S N):DOk (zh S) N:=by
 obtain⟨c,d,a,b⟩:=h
 unfold zh
 split
 ·exact⟨c,d,a,b⟩
 ·refine⟨?_,?_,a,b⟩<;>(dsimp only;split<;>omega)
theorem Zg{S:DS}{N a:Nat}(h:DOk S N)(l:List FS)(c:l.length<=a)(b:∀f∈l,f.safe<=f.data.size/\f.data.size<=a):DOk {S with files:=l} a:=⟨h.1,h.2.1,c,b⟩
theorem YX{l:List FS}{i:Nat}{x f:FS}(h:f∈l.set i x):f=x\/f∈l:=by
 rcases List.mem_or_eq_of_mem_set h with h|h
 ·exact .inr h
 ·exact .inl h
theorem kX{S:DS}{N:Nat}(h:DOk S N)(n s:ByteArray):DOk (zC S n s) (N+s.size+1):=by
 cases d:zi S
 ·have b:=ki h
  cases c:xv S.files n with
  |none=>
   rw[qh d c]
   refine Zg b _ (by simp;have:=b.2.2.1;omega) (fun f a=>?_)
   rcases List.mem_append.1 a with a|a
   ·have:=b.2.2.2 f a;omega
   ·simp at a;subst a;exact⟨E _,by dsimp only;omega⟩
  |some i=>
   obtain⟨g,e,_,_⟩:=yw c
   rw[yJ d c e]
   refine Zg b _ (by simp;have:=b.2.2.1;omega) (fun f a=>?_)
   have j:=b.2.2.2 g (List.mem_of_getElem? (by rw[zn];exact e))
   rcases YX a with rfl|a
   ·dsimp only;rw[ByteArray.size_append];omega
   ·have:=b.2.2.2 f a;omega
 ·rw[ko d];exact yR (ki h) (by omega)
theorem XU{S:DS}{N:Nat}(h:DOk S N)(n:ByteArray):DOk (xq S n) (N+1):=by
 cases b:zi S
 ·have c:=ki h
  cases a:xv S.files n with
  |none=>rw[jH b a];exact yR c (by omega)
  |some i=>
   obtain⟨g,d,_,_⟩:=yw a
   rw[qo b a d]
   refine Zg c _ (by simp;have:=c.2.2.1;omega) (fun f e=>?_)
   have j:=c.2.2.2 g (List.mem_of_getElem? (by rw[zn];exact d))
   rcases YX e with rfl|e
   ·dsimp only;omega
   ·have:=c.2.2.2 f e;omega
 ·rw[v6 b];exact yR (ki h) (by omega)
theorem zce{S:DS}{N:Nat}(h:DOk S N)(n:ByteArray):DOk (qe S n) (N+1):=by
 have a:=ki h
 unfold qe
 split
 ·exact yR a (by omega)
 ·refine Zg a _ (by have:=List.length_filter_le (fun f:FS=>!eqS f.name n) (zh S).files;have:=a.2.2.1;unfold Zf;omega) (fun f b=>?_)
  have:=a.2.2.2 f ((List.mem_filter.1 b).1);omega
def yk:ByteArray:=⟨#[114,101,99,111,114,100,115]⟩
def yZ:ByteArray:=⟨#[114,101,99,111,114,100,115,46,110,101,119]⟩
def ym:ByteArray:=⟨#[111,112,101,110,105,110,103,115]⟩
def nl:ByteArray:=⟨#[10]⟩
abbrev zdC(w:O)(d:Nat)(S:DS)(fs:K):Prop:=zv 111 113 0 w d S fs
def xL(w:O)(fs a:K):Prop:=∀k,a.ownBlock=J k->fs.ownBlock=J k\/w.1.size<=k
theorem xL.refl(w:O)(fs:K):xL w fs fs:=fun _ h=> .inl h
theorem xL.trans{w e:O}{a b c:K}(h:xL w a b)(g:w.1.size<=e.1.size)(k:xL e b c):xL w a c:=fun i f=>by
 rcases k i f with d|d
 ·exact h i d
 ·exact .inr (Nat.le_trans g d)
theorem X9{d:Nat}{w c f:O}{a b:K}(g:zk (foot d a) w c)(hn:xL w a b)(i:zk (foot d b) c f):zk (foot d a) w f:=g.trans i (fun k j e=>by
 rcases e with e|e
 ·exact .inl e
 ·rcases hn k e with h|h
  ·exact .inr h
  ·omega)
structure JAt(w:O)(j d:Nat)(st:Int)(S:DS)(fs:K):Prop where
 head:w.1[j]?=J (.cells #[.pointer (J ⟨d,0,I⟩),int i64 st] 216 (0,0))
 disk:zdC w d S fs
theorem JAt.apart{w:O}{j d:Nat}{st:Int}{S:DS}{fs:K}(h:JAt w j d st S fs):¬foot d fs j:=fun e=>by
 have a:=h.head
 rcases e with e|e
 ·rw[e,h.disk.head]at a;injection a with a;injection a with f b;exact absurd b (by decide)
 ·obtain⟨c,g⟩:=zz h.disk.row e
  rw[g]at a;injection a with a;injection a with f b;exact absurd b (by decide)
theorem JAt.after{w w':O}{j d:Nat}{st:Int}{S S':DS}{fs a:K}(h:JAt w j d st S fs)(b:zdC w' d S' a)(c:zk (foot d fs) w w'):JAt w' j d st S' a:=⟨c.heap h.head h.apart,b⟩
def JI(S:DS)(a:ByteArray):DS:=if zi S then zC S yk (a++nl)else xq (zC S yk (a++nl)) yk
def Z7(S:DS)(a:ByteArray):Bool:=!zi S&&!zi (zC S yk (a++nl))
theorem QR(r:ByteArray):(r++nl).size=r.size+1:=by rw[ByteArray.size_append];rfl
theorem ziB{w:O}{j d:Nat}{st:Int}{S:DS}{fs:K}(h:JAt w j d st S fs)(a:ByteArray)(N:Nat)(C:N+a.size+2<=1099511627776)(n:DOk S N):
  Calls prog 107 #[.pointer (J ⟨j,0,I⟩),.string a] w fun e w'=>e=.returned (.bool (Z7 S a))/\∃g,JAt w' j d st (JI S a) g/\zk (foot d fs) w w'/\xL w fs g:=by
 have A:=QR a
 have q:=zd (ZX 0 d S fs yk (a++nl) w N (by omega) n (by omega) (E _) h.disk)
 have c:=kX n yk (a++nl)
 rw[A]at c
 have x:=fun W g (F:zdC W d (zC S yk (a++nl)) g)=>zd (Vl 0 d (zC S yk (a++nl)) g yk W _ (by omega) c F)
 have P:w.cell? ⟨j,0,I⟩=J (.pointer (J ⟨d,0,I⟩)):=by rw[xK h.head];rfl
 have G:=zb h.head
 have H:=zd h
 have L:a.size<=1099511627776:=by omega
 unfold JI Z7
 generalize s:zC S yk (a++nl)=M at*
 unfold yk nl at q
 unfold yk at x
 cases v:zi S
 ·rw[v]at q
  clear h n c A C s
  go_enter func107,ntmps107
  go_wp2_with(first
   |(go_at_call 126;refine(ud q).mono ?_;rintro e B ⟨rfl,l,f,b,i⟩;have m:=(ud H).after f b;have Q:B.cell? ⟨j,0,I⟩=J (.pointer (J ⟨d,0,I⟩)):=(by rw[xK m.head];rfl);have D:=zb m.head;have z:=x B l f;have o:=zd m;have p:=zd b;have k:=zd i;clear m f b i x)
   |(go_at_call 127;refine(ud z).mono ?_;rintro e R ⟨rfl,t,u⟩;have y:=zd t;have r:=zd u;clear t u))
  go_ret
  exact⟨by simp,l,(ud o).after (ud y) (ud r),X9 (ud p) (ud k) (ud r),ud k⟩
 ·rw[v]at q
  clear h n c A C s x
  go_enter func107,ntmps107
  go_wp2_with(go_at_call 126;refine(ud q).mono ?_;rintro e B ⟨rfl,l,f,b,i⟩;have o:=zd ((ud H).after f b);have p:=zd b;have k:=zd i;clear f b i)
  go_ret
  exact⟨by simp,l,ud o,ud p,ud k⟩
def zfV(S:DS):Bool:=(xv S.files yZ).isSome&&zi S
def Vq(S:DS):DS:=if(xv S.files yZ).isSome then qe S yZ else S
def zbK(S:DS)(a:ByteArray):DS:=zC (Vq S) yZ (a++nl)
def zdi(S:DS)(a:ByteArray):DS:=xq (zbK S a) yZ
def ziS(S:DS)(a:ByteArray):DS:=xG (zdi S a) yZ yk
def zdj(S:DS)(a:ByteArray):DS:=if zfV S then Vq S else if zi (Vq S)then zbK S a else if zi (zbK S a)then zdi S a else ziS S a
def Yy(S:DS)(a:ByteArray):Bool:=!zfV S&&!zi (Vq S)&&!zi (zbK S a)&&!zi (zdi S a)
def zbL(S:DS)(a:ByteArray)(st:Int):Int:=if zfV S then st else a.size+1
theorem zfX{S:DS}{N:Nat}(h:DOk S N):DOk (Vq S) (N+1):=by
 unfold Vq;split
 ·exact zce h _
 ·exact yR h (by omega)
theorem JAt.setStart{w:O}{j d:Nat}{st:Int}{S:DS}{fs:K}(h:JAt w j d st S fs)(n:Int):JAt (w.setCell ⟨j,1,I⟩ (int i64 n)) j d n S fs/\zk (fun k=>k=j) w (w.setCell ⟨j,1,I⟩ (int i64 n)):=by
 have a:zk (fun k=>k=j) w (w.setCell ⟨j,1,I⟩ (int i64 n)):=zk.setCell (f:=fun k=>k=j) (zk.refl _ _) (p:=⟨j,1,I⟩) (fun _=>rfl) _
 exact⟨⟨zkm h.head _,h.disk.kept a (fun k b e=>by subst e;exact h.apart b)⟩,a⟩
def vL(j d:Nat)(fs:K)(k:Nat):Prop:=k=j\/foot d fs k
theorem zu{j d:Nat}{w c f:O}{a b:K}(g:zk (vL j d a) w c)(hn:xL w a b)(i:zk (vL j d b) c f):zk (vL j d a) w f:=g.trans i (fun k l e=>by
 rcases e with e|e|e
 ·exact .inl e
 ·exact .inr (.inl e)
 ·rcases hn k e with h|h
  ·exact .inr (.inr h)
  ·omega)
theorem jf{j d:Nat}{fs:K}{w w':O}(h:zk (foot d fs) w w'):zk (vL j d fs) w w':=h.mono (fun k _ e=> .inr e)
def JEnd(w w':O)(j d:Nat)(fs:K)(b:Int)(S':DS):Prop:=∃a,JAt w' j d b S' a/\zk (vL j d fs) w w'/\xL w fs a
theorem zfe{w:O}{j d:Nat}{st:Int}{S:DS}{fs:K}(h:JAt w j d st S fs)(i:ByteArray)(N:Nat)(hN:N+i.size+10<=1099511627776)(a9:DOk S N):
  Calls prog 133 #[.pointer (J ⟨j,0,I⟩),.string i] w fun e w'=>e=.returned (.bool (Yy S i))/\JEnd w w' j d fs (zbL S i st) (zdj S i):=by
 have hr:=QR i
 have a6:=zfX a9
 have a7:DOk (zbK S i) (N+1+(i.size+1)+1):=by rw[<-hr];exact kX a6 _ _
 have aa:DOk (zdi S i) (N+1+(i.size+1)+1+1):=XU a7 _
 have ae:i.size<=1099511627776:=by omega
 have HH:=zd (ziu 0 d S fs yZ w N (by omega) a9.2.2.1 h.disk)
 have HR:=zd (zdd 0 d S fs yZ w N (by omega) a9 (E _) h.disk)
 have G:=fun W Y (hd:zdC W d (Vq S) Y)=>zd (ZX 0 d (Vq S) Y yZ (i++nl) W _ (by omega) a6 (by omega) (E _) hd)
 have HS:=fun W Y (hd:zdC W d (zbK S i) Y)=>zd (Vl 0 d (zbK S i) Y yZ W _ (by omega) a7 hd)
 have HN:=fun W Y (hd:zdC W d (zdi S i) Y)=>zd (zde 0 d (zdi S i) Y yZ yk W _ (by omega) aa (E _) hd)
 have E2:Hid (zbK S i=zC (Vq S) yZ (i++nl)):=rfl
 have E3:Hid (zdi S i=xq (zbK S i) yZ):=rfl
 have E4:Hid (ziS S i=xG (zdi S i) yZ yk):=rfl
 have E1:Hid ((xv S.files yZ).isSome=true->Vq S=qe S yZ):=fun e=>by unfold Vq;rw[if_pos e]
 have E0:Hid ((xv S.files yZ).isSome=false->Vq S=S):=fun e=>by unfold Vq;rw[if_neg (by simp[e])]
 unfold Yy zdj zbL zfV
 have c0:w.cell? ⟨j,0,I⟩=J (.pointer (J ⟨d,0,I⟩)):=by rw[xK h.head];rfl
 have ad:=zb h.head
 have H:=zd h
 generalize(xv S.files yZ).isSome=hp at*
 generalize Vq S=S1 at*
 generalize zbK S i=S2 at*
 generalize zdi S i=S3 at*
 generalize ziS S i=S4 at*
 unfold yZ at HH HR
 unfold yZ nl at G
 unfold yZ at HS
 unfold yZ yk at HN
 clear h a9 a6 a7 aa hr hN
 cases hp
 ·clear HR E1
  cases X:zi S1
  ·cases a4:zi S2
   ·cases a8:zi S3
    ·simp only[X]at G
     simp only[a4]at HS
     simp only[a8]at HN
     have a:JAt w j d st S1 fs:=by rw[ud E0 rfl];exact ud H
     have u:Hid (zk (vL j d fs) w w):=zk.refl _ _
     have b:Hid (xL w fs fs):=xL.refl _ _
     obtain⟨c,p⟩:=a.setStart ((i.size:Int)+1)
     have d0:(w.setCell ⟨j,1,I⟩ (int i64 ((i.size:Int)+1))).cell? ⟨j,0,I⟩=J (.pointer (J ⟨d,0,I⟩)):=(by rw[xK c.head];rfl)
     have d1:=KD a.head 1
     have d2:w.cell? ⟨j,1,I⟩=J (int i64 st):=(by rw[xK a.head];rfl)
     have d3:w.cell? ⟨j,0,I⟩=J (.pointer (J ⟨d,0,I⟩)):=(by rw[xK a.head];rfl)
     have Q:=zb a.head
     have R:=zb c.head
     have y:=zd c
     have g:=zd (zu (ud u) (ud b) (p.mono (fun k _ e=> .inl e)))
     have x:=G _ _ c.disk
     clear a c p G
     go_enter func133,ntmps133
     go_wp2_with(first
      |(go_at_call 205;refine(ud HH).mono ?_;rintro e w0 ⟨rfl,rfl⟩)
      |(go_at_call 126;refine(ud x).mono ?_;rintro e w3 ⟨rfl,M,o,m,r⟩;have f:=(ud y).after (S':=S2) (by rw[ud E2];exact o) m;have e0:w3.cell? ⟨j,0,I⟩=J (.pointer (J ⟨d,0,I⟩)):=(by rw[xK f.head];rfl);have T:=zb f.head;have z:=zd f;have s:=zd (jf (j:=j) m);have n:=zd r;have F:=HS _ _ f.disk;clear f o m r)
      |(go_at_call 127;refine(ud F).mono ?_;rintro e w4 ⟨rfl,v,q⟩;have l:=(ud z).after (S':=S3) (by rw[ud E3];exact v) q;have f0:w4.cell? ⟨j,0,I⟩=J (.pointer (J ⟨d,0,I⟩)):=(by rw[xK l.head];rfl);have Z:=zb l.head;have L:=zd l;have A:=zd (jf (j:=j) q);have V:=HN _ _ l.disk;clear l v q)
      |(go_at_call 207;refine(ud V).mono ?_;rintro e w5 ⟨rfl,a3,P,B,U⟩;have a0:=zd ((ud L).after (S':=S4) (by rw[ud E4];exact P) B);have a1:=zd (jf (j:=j) B);have a2:=zd U;clear P B U))
     go_ret
     exact⟨rfl,⟨a3,ud a0,zu (zu (zu (ud g) (ud b) (ud s)) (xL.trans (ud b) (ud g).size (ud n)) (ud A)) (xL.trans (ud b) (ud g).size (ud n)) (ud a1),xL.trans (xL.trans (ud b) (ud g).size (ud n)) ((zu (zu (ud g) (ud b) (ud s)) (xL.trans (ud b) (ud g).size (ud n)) (ud A))).size (ud a2)⟩⟩
    ·simp only[X]at G
     simp only[a4]at HS
     simp only[a8]at HN
     have a:JAt w j d st S1 fs:=by rw[ud E0 rfl];exact ud H
     have u:Hid (zk (vL j d fs) w w):=zk.refl _ _
     have b:Hid (xL w fs fs):=xL.refl _ _
     obtain⟨c,p⟩:=a.setStart ((i.size:Int)+1)
     have d0:(w.setCell ⟨j,1,I⟩ (int i64 ((i.size:Int)+1))).cell? ⟨j,0,I⟩=J (.pointer (J ⟨d,0,I⟩)):=(by rw[xK c.head];rfl)
     have d1:=KD a.head 1
     have d2:w.cell? ⟨j,1,I⟩=J (int i64 st):=(by rw[xK a.head];rfl)
     have d3:w.cell? ⟨j,0,I⟩=J (.pointer (J ⟨d,0,I⟩)):=(by rw[xK a.head];rfl)
     have Q:=zb a.head
     have R:=zb c.head
     have y:=zd c
     have g:=zd (zu (ud u) (ud b) (p.mono (fun k _ e=> .inl e)))
     have x:=G _ _ c.disk
     clear a c p G
     go_enter func133,ntmps133
     go_wp2_with(first
      |(go_at_call 205;refine(ud HH).mono ?_;rintro e w0 ⟨rfl,rfl⟩)
      |(go_at_call 126;refine(ud x).mono ?_;rintro e w3 ⟨rfl,M,o,m,r⟩;have f:=(ud y).after (S':=S2) (by rw[ud E2];exact o) m;have e0:w3.cell? ⟨j,0,I⟩=J (.pointer (J ⟨d,0,I⟩)):=(by rw[xK f.head];rfl);have T:=zb f.head;have z:=zd f;have s:=zd (jf (j:=j) m);have n:=zd r;have F:=HS _ _ f.disk;clear f o m r)
      |(go_at_call 127;refine(ud F).mono ?_;rintro e w4 ⟨rfl,v,q⟩;have l:=(ud z).after (S':=S3) (by rw[ud E3];exact v) q;have f0:w4.cell? ⟨j,0,I⟩=J (.pointer (J ⟨d,0,I⟩)):=(by rw[xK l.head];rfl);have Z:=zb l.head;have L:=zd l;have A:=zd (jf (j:=j) q);have V:=HN _ _ l.disk;clear l v q)
      |(go_at_call 207;refine(ud V).mono ?_;rintro e w5 ⟨rfl,a3,P,B,U⟩;have a0:=zd ((ud L).after (S':=S4) (by rw[ud E4];exact P) B);have a1:=zd (jf (j:=j) B);have a2:=zd U;clear P B U))
     go_ret
     exact⟨rfl,⟨a3,ud a0,zu (zu (zu (ud g) (ud b) (ud s)) (xL.trans (ud b) (ud g).size (ud n)) (ud A)) (xL.trans (ud b) (ud g).size (ud n)) (ud a1),xL.trans (xL.trans (ud b) (ud g).size (ud n)) ((zu (zu (ud g) (ud b) (ud s)) (xL.trans (ud b) (ud g).size (ud n)) (ud A))).size (ud a2)⟩⟩
   ·simp only[X]at G
    simp only[a4]at HS
    have a:JAt w j d st S1 fs:=by rw[ud E0 rfl];exact ud H
    have u:Hid (zk (vL j d fs) w w):=zk.refl _ _
    have b:Hid (xL w fs fs):=xL.refl _ _
    obtain⟨c,p⟩:=a.setStart ((i.size:Int)+1)
    have d0:(w.setCell ⟨j,1,I⟩ (int i64 ((i.size:Int)+1))).cell? ⟨j,0,I⟩=J (.pointer (J ⟨d,0,I⟩)):=(by rw[xK c.head];rfl)
    have d1:=KD a.head 1
    have d2:w.cell? ⟨j,1,I⟩=J (int i64 st):=(by rw[xK a.head];rfl)
    have d3:w.cell? ⟨j,0,I⟩=J (.pointer (J ⟨d,0,I⟩)):=(by rw[xK a.head];rfl)
    have Q:=zb a.head
    have R:=zb c.head
    have y:=zd c
    have g:=zd (zu (ud u) (ud b) (p.mono (fun k _ e=> .inl e)))
    have x:=G _ _ c.disk
    clear a c p G
    go_enter func133,ntmps133
    go_wp2_with(first
     |(go_at_call 205;refine(ud HH).mono ?_;rintro e w0 ⟨rfl,rfl⟩)
     |(go_at_call 126;refine(ud x).mono ?_;rintro e w3 ⟨rfl,M,o,m,r⟩;have f:=(ud y).after (S':=S2) (by rw[ud E2];exact o) m;have e0:w3.cell? ⟨j,0,I⟩=J (.pointer (J ⟨d,0,I⟩)):=(by rw[xK f.head];rfl);have T:=zb f.head;have z:=zd f;have s:=zd (jf (j:=j) m);have n:=zd r;have F:=HS _ _ f.disk;clear f o m r)
     |(go_at_call 127;refine(ud F).mono ?_;rintro e w4 ⟨rfl,v,q⟩;have l:=(ud z).after (S':=S3) (by rw[ud E3];exact v) q;have f0:w4.cell? ⟨j,0,I⟩=J (.pointer (J ⟨d,0,I⟩)):=(by rw[xK l.head];rfl);have Z:=zb l.head;have L:=zd l;have A:=zd (jf (j:=j) q);have V:=HN _ _ l.disk;clear l v q))
    go_ret
    exact⟨rfl,⟨M,ud L,(zu (zu (ud g) (ud b) (ud s)) (xL.trans (ud b) (ud g).size (ud n)) (ud A)),(xL.trans (ud b) (ud g).size (ud n))⟩⟩
  ·simp only[X]at G
   have a:JAt w j d st S1 fs:=by rw[ud E0 rfl];exact ud H
   have u:Hid (zk (vL j d fs) w w):=zk.refl _ _
   have b:Hid (xL w fs fs):=xL.refl _ _
   obtain⟨c,p⟩:=a.setStart ((i.size:Int)+1)
   have d0:(w.setCell ⟨j,1,I⟩ (int i64 ((i.size:Int)+1))).cell? ⟨j,0,I⟩=J (.pointer (J ⟨d,0,I⟩)):=(by rw[xK c.head];rfl)
   have d1:=KD a.head 1
   have d2:w.cell? ⟨j,1,I⟩=J (int i64 st):=(by rw[xK a.head];rfl)
   have d3:w.cell? ⟨j,0,I⟩=J (.pointer (J ⟨d,0,I⟩)):=(by rw[xK a.head];rfl)
   have Q:=zb a.head
   have R:=zb c.head
   have y:=zd c
   have g:=zd (zu (ud u) (ud b) (p.mono (fun k _ e=> .inl e)))
   have x:=G _ _ c.disk
   clear a c p G
   go_enter func133,ntmps133
   go_wp2_with(first
    |(go_at_call 205;refine(ud HH).mono ?_;rintro e w0 ⟨rfl,rfl⟩)
    |(go_at_call 126;refine(ud x).mono ?_;rintro e w3 ⟨rfl,M,o,m,r⟩;have f:=(ud y).after (S':=S2) (by rw[ud E2];exact o) m;have e0:w3.cell? ⟨j,0,I⟩=J (.pointer (J ⟨d,0,I⟩)):=(by rw[xK f.head];rfl);have T:=zb f.head;have z:=zd f;have s:=zd (jf (j:=j) m);have n:=zd r;have F:=HS _ _ f.disk;clear f o m r))
   go_ret
   exact⟨rfl,⟨M,ud z,(zu (ud g) (ud b) (ud s)),(xL.trans (ud b) (ud g).size (ud n))⟩⟩
 ·clear E0
  have E5:=zd (ud E1 rfl)
  clear E1
  cases ab:zi S
  ·simp only[ab]at HR
   cases X:zi S1
   ·cases a4:zi S2
    ·cases a8:zi S3
     ·simp only[X]at G
      simp only[a4]at HS
      simp only[a8]at HN
      go_enter func133,ntmps133
      go_wp2_with(first
       |(go_at_call 205;refine(ud HH).mono ?_;rintro e w0 ⟨rfl,rfl⟩)
       |(go_at_call 206;refine(ud HR).mono ?_;rintro e w1 ⟨rfl,a5,C,t,D⟩;have a:=(ud H).after (S':=S1) (by rw[ud E5];exact C) t;have u:=zd (jf (j:=j) t);have b:=zd D;clear C t D;obtain⟨c,p⟩:=a.setStart ((i.size:Int)+1);have d0:(w1.setCell ⟨j,1,I⟩ (int i64 ((i.size:Int)+1))).cell? ⟨j,0,I⟩=J (.pointer (J ⟨d,0,I⟩)):=(by rw[xK c.head];rfl);have d1:=KD a.head 1;have d2:w1.cell? ⟨j,1,I⟩=J (int i64 st):=(by rw[xK a.head];rfl);have d3:w1.cell? ⟨j,0,I⟩=J (.pointer (J ⟨d,0,I⟩)):=(by rw[xK a.head];rfl);have Q:=zb a.head;have R:=zb c.head;have y:=zd c;have g:=zd (zu (ud u) (ud b) (p.mono (fun k _ e=> .inl e)));have x:=G _ _ c.disk;clear a c p G)
       |(go_at_call 126;refine(ud x).mono ?_;rintro e w3 ⟨rfl,M,o,m,r⟩;have f:=(ud y).after (S':=S2) (by rw[ud E2];exact o) m;have e0:w3.cell? ⟨j,0,I⟩=J (.pointer (J ⟨d,0,I⟩)):=(by rw[xK f.head];rfl);have T:=zb f.head;have z:=zd f;have s:=zd (jf (j:=j) m);have n:=zd r;have F:=HS _ _ f.disk;clear f o m r)
       |(go_at_call 127;refine(ud F).mono ?_;rintro e w4 ⟨rfl,v,q⟩;have l:=(ud z).after (S':=S3) (by rw[ud E3];exact v) q;have f0:w4.cell? ⟨j,0,I⟩=J (.pointer (J ⟨d,0,I⟩)):=(by rw[xK l.head];rfl);have Z:=zb l.head;have L:=zd l;have A:=zd (jf (j:=j) q);have V:=HN _ _ l.disk;clear l v q)
       |(go_at_call 207;refine(ud V).mono ?_;rintro e w5 ⟨rfl,a3,P,B,U⟩;have a0:=zd ((ud L).after (S':=S4) (by rw[ud E4];exact P) B);have a1:=zd (jf (j:=j) B);have a2:=zd U;clear P B U))
      go_ret
      exact⟨rfl,⟨a3,ud a0,zu (zu (zu (ud g) (ud b) (ud s)) (xL.trans (ud b) (ud g).size (ud n)) (ud A)) (xL.trans (ud b) (ud g).size (ud n)) (ud a1),xL.trans (xL.trans (ud b) (ud g).size (ud n)) ((zu (zu (ud g) (ud b) (ud s)) (xL.trans (ud b) (ud g).size (ud n)) (ud A))).size (ud a2)⟩⟩
     ·simp only[X]at G
      simp only[a4]at HS
      simp only[a8]at HN
      go_enter func133,ntmps133
      go_wp2_with(first
       |(go_at_call 205;refine(ud HH).mono ?_;rintro e w0 ⟨rfl,rfl⟩)
       |(go_at_call 206;refine(ud HR).mono ?_;rintro e w1 ⟨rfl,a5,C,t,D⟩;have a:=(ud H).after (S':=S1) (by rw[ud E5];exact C) t;have u:=zd (jf (j:=j) t);have b:=zd D;clear C t D;obtain⟨c,p⟩:=a.setStart ((i.size:Int)+1);have d0:(w1.setCell ⟨j,1,I⟩ (int i64 ((i.size:Int)+1))).cell? ⟨j,0,I⟩=J (.pointer (J ⟨d,0,I⟩)):=(by rw[xK c.head];rfl);have d1:=KD a.head 1;have d2:w1.cell? ⟨j,1,I⟩=J (int i64 st):=(by rw[xK a.head];rfl);have d3:w1.cell? ⟨j,0,I⟩=J (.pointer (J ⟨d,0,I⟩)):=(by rw[xK a.head];rfl);have Q:=zb a.head;have R:=zb c.head;have y:=zd c;have g:=zd (zu (ud u) (ud b) (p.mono (fun k _ e=> .inl e)));have x:=G _ _ c.disk;clear a c p G)
       |(go_at_call 126;refine(ud x).mono ?_;rintro e w3 ⟨rfl,M,o,m,r⟩;have f:=(ud y).after (S':=S2) (by rw[ud E2];exact o) m;have e0:w3.cell? ⟨j,0,I⟩=J (.pointer (J ⟨d,0,I⟩)):=(by rw[xK f.head];rfl);have T:=zb f.head;have z:=zd f;have s:=zd (jf (j:=j) m);have n:=zd r;have F:=HS _ _ f.disk;clear f o m r)
       |(go_at_call 127;refine(ud F).mono ?_;rintro e w4 ⟨rfl,v,q⟩;have l:=(ud z).after (S':=S3) (by rw[ud E3];exact v) q;have f0:w4.cell? ⟨j,0,I⟩=J (.pointer (J ⟨d,0,I⟩)):=(by rw[xK l.head];rfl);have Z:=zb l.head;have L:=zd l;have A:=zd (jf (j:=j) q);have V:=HN _ _ l.disk;clear l v q)
       |(go_at_call 207;refine(ud V).mono ?_;rintro e w5 ⟨rfl,a3,P,B,U⟩;have a0:=zd ((ud L).after (S':=S4) (by rw[ud E4];exact P) B);have a1:=zd (jf (j:=j) B);have a2:=zd U;clear P B U))
      go_ret
      exact⟨rfl,⟨a3,ud a0,zu (zu (zu (ud g) (ud b) (ud s)) (xL.trans (ud b) (ud g).size (ud n)) (ud A)) (xL.trans (ud b) (ud g).size (ud n)) (ud a1),xL.trans (xL.trans (ud b) (ud g).size (ud n)) ((zu (zu (ud g) (ud b) (ud s)) (xL.trans (ud b) (ud g).size (ud n)) (ud A))).size (ud a2)⟩⟩
    ·simp only[X]at G
     simp only[a4]at HS
     go_enter func133,ntmps133
     go_wp2_with(first
      |(go_at_call 205;refine(ud HH).mono ?_;rintro e w0 ⟨rfl,rfl⟩)
      |(go_at_call 206;refine(ud HR).mono ?_;rintro e w1 ⟨rfl,a5,C,t,D⟩;have a:=(ud H).after (S':=S1) (by rw[ud E5];exact C) t;have u:=zd (jf (j:=j) t);have b:=zd D;clear C t D;obtain⟨c,p⟩:=a.setStart ((i.size:Int)+1);have d0:(w1.setCell ⟨j,1,I⟩ (int i64 ((i.size:Int)+1))).cell? ⟨j,0,I⟩=J (.pointer (J ⟨d,0,I⟩)):=(by rw[xK c.head];rfl);have d1:=KD a.head 1;have d2:w1.cell? ⟨j,1,I⟩=J (int i64 st):=(by rw[xK a.head];rfl);have d3:w1.cell? ⟨j,0,I⟩=J (.pointer (J ⟨d,0,I⟩)):=(by rw[xK a.head];rfl);have Q:=zb a.head;have R:=zb c.head;have y:=zd c;have g:=zd (zu (ud u) (ud b) (p.mono (fun k _ e=> .inl e)));have x:=G _ _ c.disk;clear a c p G)
      |(go_at_call 126;refine(ud x).mono ?_;rintro e w3 ⟨rfl,M,o,m,r⟩;have f:=(ud y).after (S':=S2) (by rw[ud E2];exact o) m;have e0:w3.cell? ⟨j,0,I⟩=J (.pointer (J ⟨d,0,I⟩)):=(by rw[xK f.head];rfl);have T:=zb f.head;have z:=zd f;have s:=zd (jf (j:=j) m);have n:=zd r;have F:=HS _ _ f.disk;clear f o m r)
      |(go_at_call 127;refine(ud F).mono ?_;rintro e w4 ⟨rfl,v,q⟩;have l:=(ud z).after (S':=S3) (by rw[ud E3];exact v) q;have f0:w4.cell? ⟨j,0,I⟩=J (.pointer (J ⟨d,0,I⟩)):=(by rw[xK l.head];rfl);have Z:=zb l.head;have L:=zd l;have A:=zd (jf (j:=j) q);have V:=HN _ _ l.disk;clear l v q))
     go_ret
     exact⟨rfl,⟨M,ud L,(zu (zu (ud g) (ud b) (ud s)) (xL.trans (ud b) (ud g).size (ud n)) (ud A)),(xL.trans (ud b) (ud g).size (ud n))⟩⟩
   ·simp only[X]at G
    go_enter func133,ntmps133
    go_wp2_with(first
     |(go_at_call 205;refine(ud HH).mono ?_;rintro e w0 ⟨rfl,rfl⟩)
     |(go_at_call 206;refine(ud HR).mono ?_;rintro e w1 ⟨rfl,a5,C,t,D⟩;have a:=(ud H).after (S':=S1) (by rw[ud E5];exact C) t;have u:=zd (jf (j:=j) t);have b:=zd D;clear C t D;obtain⟨c,p⟩:=a.setStart ((i.size:Int)+1);have d0:(w1.setCell ⟨j,1,I⟩ (int i64 ((i.size:Int)+1))).cell? ⟨j,0,I⟩=J (.pointer (J ⟨d,0,I⟩)):=(by rw[xK c.head];rfl);have d1:=KD a.head 1;have d2:w1.cell? ⟨j,1,I⟩=J (int i64 st):=(by rw[xK a.head];rfl);have d3:w1.cell? ⟨j,0,I⟩=J (.pointer (J ⟨d,0,I⟩)):=(by rw[xK a.head];rfl);have Q:=zb a.head;have R:=zb c.head;have y:=zd c;have g:=zd (zu (ud u) (ud b) (p.mono (fun k _ e=> .inl e)));have x:=G _ _ c.disk;clear a c p G)
     |(go_at_call 126;refine(ud x).mono ?_;rintro e w3 ⟨rfl,M,o,m,r⟩;have f:=(ud y).after (S':=S2) (by rw[ud E2];exact o) m;have e0:w3.cell? ⟨j,0,I⟩=J (.pointer (J ⟨d,0,I⟩)):=(by rw[xK f.head];rfl);have T:=zb f.head;have z:=zd f;have s:=zd (jf (j:=j) m);have n:=zd r;have F:=HS _ _ f.disk;clear f o m r))
    go_ret
    exact⟨rfl,⟨M,ud z,(zu (ud g) (ud b) (ud s)),(xL.trans (ud b) (ud g).size (ud n))⟩⟩
  ·simp only[ab]at HR
   go_enter func133,ntmps133
   go_wp2_with(first
    |(go_at_call 205;refine(ud HH).mono ?_;rintro e w0 ⟨rfl,rfl⟩)
    |(go_at_call 206;refine(ud HR).mono ?_;rintro e w1 ⟨rfl,a5,C,t,D⟩;have a:=(ud H).after (S':=S1) (by rw[ud E5];exact C) t;have u:=zd (jf (j:=j) t);have b:=zd D;clear C t D;have ac:=zd a;clear a))
   go_ret
   exact⟨rfl,⟨a5,ud ac,ud u,ud b⟩⟩
end Go.Proofs.YtndhpgciopcncaaGreatDoor
