import Derived.Test.YtndhpgciopcncaaGreatDoorPDisk7
import Derived.Test.YtndhpgciopcncaaGreatDoorPConf0
import Derived.Deep.RegionHeld3
open Option renaming some → J
open Go renaming World → K
open Go renaming Value → E
open Nat renaming zero_le → Q
set_option linter.unusedVariables false
set_option maxRecDepth 8000
set_option maxHeartbeats 8000000
open Go.Proofs.Tryz
namespace Go.Proofs.YtndhpgciopcncaaGreatDoor
open Go.RowKit Go.Shelf
theorem kG{S:DS}{N a:Nat}(h:DOk S N)(b:N<=a):DOk S a:=⟨h.1,h.2.1,Nat.le_trans h.2.2.1 b,fun f c=>⟨(h.2.2.2 f c).1,Nat.le_trans (h.2.2.2 f c).2 b⟩⟩
theorem kX{S:DS}{N:Nat}(h:DOk S N):DOk (zm S) N:=by
 obtain⟨c,d,a,b⟩:=h
 unfold zm
 split
 ·exact⟨c,d,a,b⟩
 ·refine⟨?_,?_,a,b⟩<;>(dsimp only;split<;>omega)
theorem Xx{S:DS}{N a:Nat}(h:DOk S N)(l:List FS)(c:l.length<=a)(b:∀f∈l,f.safe<=f.data.size/\f.data.size<=a):DOk {S with files:=l} a:=⟨h.1,h.2.1,c,b⟩
theorem VG{l:List FS}{i:Nat}{x f:FS}(h:f∈l.set i x):f=x\/f∈l:=by
 rcases List.mem_or_eq_of_mem_set h with h|h
 ·exact .inr h
 ·exact .inl h
theorem vX{S:DS}{N:Nat}(h:DOk S N)(n s:ByteArray):DOk (zE S n s) (N+s.size+1):=by
 cases d:zo S
 ·have b:=kX h
  cases c:xN S.files n with
  |none=>
   rw[qG d c]
   refine Xx b _ (by simp;have:=b.2.2.1;omega) (fun f a=>?_)
   rcases List.mem_append.1 a with a|a
   ·have:=b.2.2.2 f a;omega
   ·simp at a;subst a;exact⟨Q _,by dsimp only;omega⟩
  |some i=>
   obtain⟨g,e,_,_⟩:=kh c
   rw[yp d c e]
   refine Xx b _ (by simp;have:=b.2.2.1;omega) (fun f a=>?_)
   have j:=b.2.2.2 g (List.mem_of_getElem? (by rw[zq];exact e))
   rcases VG a with rfl|a
   ·dsimp only;rw[ByteArray.size_append];omega
   ·have:=b.2.2.2 f a;omega
 ·rw[vd d];exact kG (kX h) (by omega)
theorem Yl{S:DS}{N:Nat}(h:DOk S N)(n:ByteArray):DOk (xI S n) (N+1):=by
 cases b:zo S
 ·have c:=kX h
  cases a:xN S.files n with
  |none=>rw[ZP b a];exact kG c (by omega)
  |some i=>
   obtain⟨g,d,_,_⟩:=kh a
   rw[qs b a d]
   refine Xx c _ (by simp;have:=c.2.2.1;omega) (fun f e=>?_)
   have j:=c.2.2.2 g (List.mem_of_getElem? (by rw[zq];exact d))
   rcases VG e with rfl|e
   ·dsimp only;omega
   ·have:=c.2.2.2 f e;omega
 ·rw[jd b];exact kG (kX h) (by omega)
theorem zeC{S:DS}{N:Nat}(h:DOk S N)(n:ByteArray):DOk (qE S n) (N+1):=by
 have a:=kX h
 unfold qE
 split
 ·exact kG a (by omega)
 ·refine Xx a _ (by have:=List.length_filter_le (fun f:FS=>!eqS f.name n) (zm S).files;have:=a.2.2.1;unfold Xw;omega) (fun f b=>?_)
  have:=a.2.2.2 f ((List.mem_filter.1 b).1);omega
def yk:ByteArray:=⟨#[114,101,99,111,114,100,115]⟩
def kQ:ByteArray:=⟨#[114,101,99,111,114,100,115,46,110,101,119]⟩
def yg:ByteArray:=⟨#[111,112,101,110,105,110,103,115]⟩
def nl:ByteArray:=⟨#[10]⟩
abbrev zbW(w:K)(d:Nat)(S:DS)(fs:E):Prop:=zw 111 113 0 w d S fs
def qj(w:K)(fs a:E):Prop:=∀k,a.ownBlock=J k->fs.ownBlock=J k\/w.1.size<=k
theorem qj.refl(w:K)(fs:E):qj w fs fs:=fun _ h=> .inl h
theorem qj.trans{w e:K}{a b c:E}(h:qj w a b)(g:w.1.size<=e.1.size)(k:qj e b c):qj w a c:=fun i f=>by
 rcases k i f with d|d
 ·exact h i d
 ·exact .inr (Nat.le_trans g d)
theorem Qk{d:Nat}{w c f:K}{a b:E}(g:zh (foot d a) w c)(hn:qj w a b)(i:zh (foot d b) c f):zh (foot d a) w f:=g.trans i (fun k j e=>by
 rcases e with e|e
 ·exact .inl e
 ·rcases hn k e with h|h
  ·exact .inr h
  ·omega)
structure JAt(w:K)(j d:Nat)(st:Int)(S:DS)(fs:E):Prop where
 head:w.1[j]?=J (.cells #[(O d),I st] 216 (0,0))
 disk:zbW w d S fs
theorem JAt.apart{w:K}{j d:Nat}{st:Int}{S:DS}{fs:E}(h:JAt w j d st S fs):¬foot d fs j:=fun e=>by
 have a:=h.head
 rcases e with e|e
 ·rw[e,h.disk.head]at a;injection a with a;injection a with f b;exact absurd b (by decide)
 ·obtain⟨c,g⟩:=zH h.disk.row e
  rw[g]at a;injection a with a;injection a with f b;exact absurd b (by decide)
theorem JAt.after{w w':K}{j d:Nat}{st:Int}{S S':DS}{fs a:E}(h:JAt w j d st S fs)(b:zbW w' d S' a)(c:zh (foot d fs) w w'):JAt w' j d st S' a:=⟨c.heap h.head h.apart,b⟩
def zbX(S:DS)(a:ByteArray):DS:=if zo S then zE S yk (a++nl)else xI (zE S yk (a++nl)) yk
def jU(S:DS)(a:ByteArray):Bool:=!zo S&&!zo (zE S yk (a++nl))
theorem Qw(r:ByteArray):(r++nl).size=r.size+1:=by rw[ByteArray.size_append];rfl
theorem znP{w:K}{j d:Nat}{st:Int}{S:DS}{fs:E}(h:JAt w j d st S fs)(a:ByteArray)(N:Nat)(C:N+a.size+2<=1099511627776)(n:DOk S N):
  Calls prog 107 #[(O j),.string a] w fun e w'=>e=.returned (.bool (jU S a))/\∃g,JAt w' j d st (zbX S a) g/\zh (foot d fs) w w'/\qj w fs g:=by
 have A:=Qw a
 have q:=ze (Qf 0 d S fs yk (a++nl) w N (by omega) n (by omega) (Q _) h.disk)
 have c:=vX n yk (a++nl)
 rw[A]at c
 have x:=fun W g (F:zbW W d (zE S yk (a++nl)) g)=>ze (JZ 0 d (zE S yk (a++nl)) g yk W _ (by omega) c F)
 have M:w.cell? (U j 0)=J (O d):=by rw[xO h.head];rfl
 have G:=zd h.head
 have H:=ze h
 have I:a.size<=1099511627776:=by omega
 unfold zbX jU
 generalize s:zE S yk (a++nl)=L at*
 unfold yk nl at q
 unfold yk at x
 cases v:zo S
 ·rw[v]at q
  clear h n c A C s
  go_enter func107,ntmps107
  go_wp2_with(first
   |(go_at_call 126;refine(ud q).mono ?_;rintro e B ⟨rfl,l,f,b,i⟩;have m:=(ud H).after f b;have P:B.cell? (U j 0)=J (O d):=(by rw[xO m.head];rfl);have D:=zd m.head;have z:=x B l f;have o:=ze m;have p:=ze b;have k:=ze i;clear m f b i x)
   |(go_at_call 127;refine(ud z).mono ?_;rintro e R ⟨rfl,t,u⟩;have y:=ze t;have r:=ze u;clear t u))
  go_ret
  exact⟨by simp,l,(ud o).after (ud y) (ud r),Qk (ud p) (ud k) (ud r),ud k⟩
 ·rw[v]at q
  clear h n c A C s x
  go_enter func107,ntmps107
  go_wp2_with(go_at_call 126;refine(ud q).mono ?_;rintro e B ⟨rfl,l,f,b,i⟩;have o:=ze ((ud H).after f b);have p:=ze b;have k:=ze i;clear f b i)
  go_ret
  exact⟨by simp,l,ud o,ud p,ud k⟩
def zkc(S:DS):Bool:=(xN S.files kQ).isSome&&zo S
def zai(S:DS):DS:=if(xN S.files kQ).isSome then qE S kQ else S
def zeh(S:DS)(a:ByteArray):DS:=zE (zai S) kQ (a++nl)
def zga(S:DS)(a:ByteArray):DS:=xI (zeh S a) kQ
def zoj(S:DS)(a:ByteArray):DS:=qe (zga S a) kQ yk
def zei(S:DS)(a:ByteArray):DS:=if zkc S then zai S else if zo (zai S)then zeh S a else if zo (zeh S a)then zga S a else zoj S a
def Vb(S:DS)(a:ByteArray):Bool:=!zkc S&&!zo (zai S)&&!zo (zeh S a)&&!zo (zga S a)
def JO(S:DS)(a:ByteArray)(st:Int):Int:=if zkc S then st else a.size+1
theorem zkg{S:DS}{N:Nat}(h:DOk S N):DOk (zai S) (N+1):=by
 unfold zai;split
 ·exact zeC h _
 ·exact kG h (by omega)
theorem JAt.setStart{w:K}{j d:Nat}{st:Int}{S:DS}{fs:E}(h:JAt w j d st S fs)(n:Int):JAt (w.setCell (U j 1) (I n)) j d n S fs/\zh (fun k=>k=j) w (w.setCell (U j 1) (I n)):=by
 have a:zh (fun k=>k=j) w (w.setCell (U j 1) (I n)):=zh.setCell (f:=fun k=>k=j) (zh.refl _ _) (p:=(U j 1)) (fun _=>rfl) _
 exact⟨⟨zpM h.head _,h.disk.kept a (fun k b e=>by subst e;exact h.apart b)⟩,a⟩
def Zb(j d:Nat)(fs:E)(k:Nat):Prop:=k=j\/foot d fs k
theorem zA{j d:Nat}{w c f:K}{a b:E}(g:zh (Zb j d a) w c)(hn:qj w a b)(i:zh (Zb j d b) c f):zh (Zb j d a) w f:=g.trans i (fun k l e=>by
 rcases e with e|e|e
 ·exact .inl e
 ·exact .inr (.inl e)
 ·rcases hn k e with h|h
  ·exact .inr (.inr h)
  ·omega)
theorem jf{j d:Nat}{fs:E}{w w':K}(h:zh (foot d fs) w w'):zh (Zb j d fs) w w':=h.mono (fun k _ e=> .inr e)
def JEnd(w w':K)(j d:Nat)(fs:E)(b:Int)(S':DS):Prop:=∃a,JAt w' j d b S' a/\zh (Zb j d fs) w w'/\qj w fs a
theorem zjf{w:K}{j d:Nat}{st:Int}{S:DS}{fs:E}(h:JAt w j d st S fs)(i:ByteArray)(N:Nat)(hN:N+i.size+10<=1099511627776)(ab:DOk S N):
  Calls prog 133 #[(O j),.string i] w fun e w'=>e=.returned (.bool (Vb S i))/\JEnd w w' j d fs (JO S i st) (zei S i):=by
 have hr:=Qw i
 have a8:=zkg ab
 have a9:DOk (zeh S i) (N+1+(i.size+1)+1):=by rw[<-hr];exact vX a8 _ _
 have ac:DOk (zga S i) (N+1+(i.size+1)+1+1):=Yl a9 _
 have ag:i.size<=1099511627776:=by omega
 have HH:=ze (znC 0 d S fs kQ w N (by omega) ab.2.2.1 h.disk)
 have HR:=ze (zfT 0 d S fs kQ w N (by omega) ab (Q _) h.disk)
 have G:=fun W a0 (hd:zbW W d (zai S) a0)=>ze (Qf 0 d (zai S) a0 kQ (i++nl) W _ (by omega) a8 (by omega) (Q _) hd)
 have HS:=fun W a0 (hd:zbW W d (zeh S i) a0)=>ze (JZ 0 d (zeh S i) a0 kQ W _ (by omega) a9 hd)
 have HN:=fun W a0 (hd:zbW W d (zga S i) a0)=>ze (zfU 0 d (zga S i) a0 kQ yk W _ (by omega) ac (Q _) hd)
 have E2:Hid (zeh S i=zE (zai S) kQ (i++nl)):=rfl
 have E3:Hid (zga S i=xI (zeh S i) kQ):=rfl
 have E4:Hid (zoj S i=qe (zga S i) kQ yk):=rfl
 have E1:Hid ((xN S.files kQ).isSome=true->zai S=qE S kQ):=fun e=>by unfold zai;rw[if_pos e]
 have E0:Hid ((xN S.files kQ).isSome=false->zai S=S):=fun e=>by unfold zai;rw[if_neg (by simp[e])]
 unfold Vb zei JO zkc
 have c0:w.cell? (U j 0)=J (O d):=by rw[xO h.head];rfl
 have af:=zd h.head
 have H:=ze h
 generalize(xN S.files kQ).isSome=hp at*
 generalize zai S=S1 at*
 generalize zeh S i=S2 at*
 generalize zga S i=S3 at*
 generalize zoj S i=S4 at*
 unfold kQ at HH HR
 unfold kQ nl at G
 unfold kQ at HS
 unfold kQ yk at HN
 clear h ab a8 a9 ac hr hN
 cases hp
 ·clear HR E1
  cases Z:zo S1
  ·cases a6:zo S2
   ·cases aa:zo S3
    ·simp only[Z]at G
     simp only[a6]at HS
     simp only[aa]at HN
     have a:JAt w j d st S1 fs:=by rw[ud E0 rfl];exact ud H
     have u:Hid (zh (Zb j d fs) w w):=zh.refl _ _
     have b:Hid (qj w fs fs):=qj.refl _ _
     obtain⟨c,p⟩:=a.setStart ((i.size:Int)+1)
     have d0:(w.setCell (U j 1) (I ((i.size:Int)+1))).cell? (U j 0)=J (O d):=(by rw[xO c.head];rfl)
     have d1:=Jb a.head 1
     have d2:w.cell? (U j 1)=J (I st):=(by rw[xO a.head];rfl)
     have d3:w.cell? (U j 0)=J (O d):=(by rw[xO a.head];rfl)
     have R:=zd a.head
     have T:=zd c.head
     have y:=ze c
     have g:=ze (zA (ud u) (ud b) (p.mono (fun k _ e=> .inl e)))
     have x:=G _ _ c.disk
     clear a c p G
     go_enter func133,ntmps133
     go_wp2_with(first
      |(go_at_call 205;refine(ud HH).mono ?_;rintro e w0 ⟨rfl,rfl⟩)
      |(go_at_call 126;refine(ud x).mono ?_;rintro e w3 ⟨rfl,M,o,m,r⟩;have f:=(ud y).after (S':=S2) (by rw[ud E2];exact o) m;have e0:w3.cell? (U j 0)=J (O d):=(by rw[xO f.head];rfl);have V:=zd f.head;have z:=ze f;have s:=ze (jf (j:=j) m);have n:=ze r;have F:=HS _ _ f.disk;clear f o m r)
      |(go_at_call 127;refine(ud F).mono ?_;rintro e w4 ⟨rfl,v,q⟩;have l:=(ud z).after (S':=S3) (by rw[ud E3];exact v) q;have f0:w4.cell? (U j 0)=J (O d):=(by rw[xO l.head];rfl);have a1:=zd l.head;have L:=ze l;have A:=ze (jf (j:=j) q);have Y:=HN _ _ l.disk;clear l v q)
      |(go_at_call 207;refine(ud Y).mono ?_;rintro e w5 ⟨rfl,a5,P,B,X⟩;have a2:=ze ((ud L).after (S':=S4) (by rw[ud E4];exact P) B);have a3:=ze (jf (j:=j) B);have a4:=ze X;clear P B X))
     go_ret
     exact⟨rfl,⟨a5,ud a2,zA (zA (zA (ud g) (ud b) (ud s)) (qj.trans (ud b) (ud g).size (ud n)) (ud A)) (qj.trans (ud b) (ud g).size (ud n)) (ud a3),qj.trans (qj.trans (ud b) (ud g).size (ud n)) ((zA (zA (ud g) (ud b) (ud s)) (qj.trans (ud b) (ud g).size (ud n)) (ud A))).size (ud a4)⟩⟩
    ·simp only[Z]at G
     simp only[a6]at HS
     simp only[aa]at HN
     have a:JAt w j d st S1 fs:=by rw[ud E0 rfl];exact ud H
     have u:Hid (zh (Zb j d fs) w w):=zh.refl _ _
     have b:Hid (qj w fs fs):=qj.refl _ _
     obtain⟨c,p⟩:=a.setStart ((i.size:Int)+1)
     have d0:(w.setCell (U j 1) (I ((i.size:Int)+1))).cell? (U j 0)=J (O d):=(by rw[xO c.head];rfl)
     have d1:=Jb a.head 1
     have d2:w.cell? (U j 1)=J (I st):=(by rw[xO a.head];rfl)
     have d3:w.cell? (U j 0)=J (O d):=(by rw[xO a.head];rfl)
     have R:=zd a.head
     have T:=zd c.head
     have y:=ze c
     have g:=ze (zA (ud u) (ud b) (p.mono (fun k _ e=> .inl e)))
     have x:=G _ _ c.disk
     clear a c p G
     go_enter func133,ntmps133
     go_wp2_with(first
      |(go_at_call 205;refine(ud HH).mono ?_;rintro e w0 ⟨rfl,rfl⟩)
      |(go_at_call 126;refine(ud x).mono ?_;rintro e w3 ⟨rfl,M,o,m,r⟩;have f:=(ud y).after (S':=S2) (by rw[ud E2];exact o) m;have e0:w3.cell? (U j 0)=J (O d):=(by rw[xO f.head];rfl);have V:=zd f.head;have z:=ze f;have s:=ze (jf (j:=j) m);have n:=ze r;have F:=HS _ _ f.disk;clear f o m r)
      |(go_at_call 127;refine(ud F).mono ?_;rintro e w4 ⟨rfl,v,q⟩;have l:=(ud z).after (S':=S3) (by rw[ud E3];exact v) q;have f0:w4.cell? (U j 0)=J (O d):=(by rw[xO l.head];rfl);have a1:=zd l.head;have L:=ze l;have A:=ze (jf (j:=j) q);have Y:=HN _ _ l.disk;clear l v q)
      |(go_at_call 207;refine(ud Y).mono ?_;rintro e w5 ⟨rfl,a5,P,B,X⟩;have a2:=ze ((ud L).after (S':=S4) (by rw[ud E4];exact P) B);have a3:=ze (jf (j:=j) B);have a4:=ze X;clear P B X))
     go_ret
     exact⟨rfl,⟨a5,ud a2,zA (zA (zA (ud g) (ud b) (ud s)) (qj.trans (ud b) (ud g).size (ud n)) (ud A)) (qj.trans (ud b) (ud g).size (ud n)) (ud a3),qj.trans (qj.trans (ud b) (ud g).size (ud n)) ((zA (zA (ud g) (ud b) (ud s)) (qj.trans (ud b) (ud g).size (ud n)) (ud A))).size (ud a4)⟩⟩
   ·simp only[Z]at G
    simp only[a6]at HS
    have a:JAt w j d st S1 fs:=by rw[ud E0 rfl];exact ud H
    have u:Hid (zh (Zb j d fs) w w):=zh.refl _ _
    have b:Hid (qj w fs fs):=qj.refl _ _
    obtain⟨c,p⟩:=a.setStart ((i.size:Int)+1)
    have d0:(w.setCell (U j 1) (I ((i.size:Int)+1))).cell? (U j 0)=J (O d):=(by rw[xO c.head];rfl)
    have d1:=Jb a.head 1
    have d2:w.cell? (U j 1)=J (I st):=(by rw[xO a.head];rfl)
    have d3:w.cell? (U j 0)=J (O d):=(by rw[xO a.head];rfl)
    have R:=zd a.head
    have T:=zd c.head
    have y:=ze c
    have g:=ze (zA (ud u) (ud b) (p.mono (fun k _ e=> .inl e)))
    have x:=G _ _ c.disk
    clear a c p G
    go_enter func133,ntmps133
    go_wp2_with(first
     |(go_at_call 205;refine(ud HH).mono ?_;rintro e w0 ⟨rfl,rfl⟩)
     |(go_at_call 126;refine(ud x).mono ?_;rintro e w3 ⟨rfl,M,o,m,r⟩;have f:=(ud y).after (S':=S2) (by rw[ud E2];exact o) m;have e0:w3.cell? (U j 0)=J (O d):=(by rw[xO f.head];rfl);have V:=zd f.head;have z:=ze f;have s:=ze (jf (j:=j) m);have n:=ze r;have F:=HS _ _ f.disk;clear f o m r)
     |(go_at_call 127;refine(ud F).mono ?_;rintro e w4 ⟨rfl,v,q⟩;have l:=(ud z).after (S':=S3) (by rw[ud E3];exact v) q;have f0:w4.cell? (U j 0)=J (O d):=(by rw[xO l.head];rfl);have a1:=zd l.head;have L:=ze l;have A:=ze (jf (j:=j) q);have Y:=HN _ _ l.disk;clear l v q))
    go_ret
    exact⟨rfl,⟨M,ud L,(zA (zA (ud g) (ud b) (ud s)) (qj.trans (ud b) (ud g).size (ud n)) (ud A)),(qj.trans (ud b) (ud g).size (ud n))⟩⟩
  ·simp only[Z]at G
   have a:JAt w j d st S1 fs:=by rw[ud E0 rfl];exact ud H
   have u:Hid (zh (Zb j d fs) w w):=zh.refl _ _
   have b:Hid (qj w fs fs):=qj.refl _ _
   obtain⟨c,p⟩:=a.setStart ((i.size:Int)+1)
   have d0:(w.setCell (U j 1) (I ((i.size:Int)+1))).cell? (U j 0)=J (O d):=(by rw[xO c.head];rfl)
   have d1:=Jb a.head 1
   have d2:w.cell? (U j 1)=J (I st):=(by rw[xO a.head];rfl)
   have d3:w.cell? (U j 0)=J (O d):=(by rw[xO a.head];rfl)
   have R:=zd a.head
   have T:=zd c.head
   have y:=ze c
   have g:=ze (zA (ud u) (ud b) (p.mono (fun k _ e=> .inl e)))
   have x:=G _ _ c.disk
   clear a c p G
   go_enter func133,ntmps133
   go_wp2_with(first
    |(go_at_call 205;refine(ud HH).mono ?_;rintro e w0 ⟨rfl,rfl⟩)
    |(go_at_call 126;refine(ud x).mono ?_;rintro e w3 ⟨rfl,M,o,m,r⟩;have f:=(ud y).after (S':=S2) (by rw[ud E2];exact o) m;have e0:w3.cell? (U j 0)=J (O d):=(by rw[xO f.head];rfl);have V:=zd f.head;have z:=ze f;have s:=ze (jf (j:=j) m);have n:=ze r;have F:=HS _ _ f.disk;clear f o m r))
   go_ret
   exact⟨rfl,⟨M,ud z,(zA (ud g) (ud b) (ud s)),(qj.trans (ud b) (ud g).size (ud n))⟩⟩
 ·clear E0
  have E5:=ze (ud E1 rfl)
  clear E1
  cases ad:zo S
  ·simp only[ad]at HR
   cases Z:zo S1
   ·cases a6:zo S2
    ·cases aa:zo S3
     ·simp only[Z]at G
      simp only[a6]at HS
      simp only[aa]at HN
      go_enter func133,ntmps133
      go_wp2_with(first
       |(go_at_call 205;refine(ud HH).mono ?_;rintro e w0 ⟨rfl,rfl⟩)
       |(go_at_call 206;refine(ud HR).mono ?_;rintro e w1 ⟨rfl,a7,C,t,D⟩;have a:=(ud H).after (S':=S1) (by rw[ud E5];exact C) t;have u:=ze (jf (j:=j) t);have b:=ze D;clear C t D;obtain⟨c,p⟩:=a.setStart ((i.size:Int)+1);have d0:(w1.setCell (U j 1) (I ((i.size:Int)+1))).cell? (U j 0)=J (O d):=(by rw[xO c.head];rfl);have d1:=Jb a.head 1;have d2:w1.cell? (U j 1)=J (I st):=(by rw[xO a.head];rfl);have d3:w1.cell? (U j 0)=J (O d):=(by rw[xO a.head];rfl);have R:=zd a.head;have T:=zd c.head;have y:=ze c;have g:=ze (zA (ud u) (ud b) (p.mono (fun k _ e=> .inl e)));have x:=G _ _ c.disk;clear a c p G)
       |(go_at_call 126;refine(ud x).mono ?_;rintro e w3 ⟨rfl,M,o,m,r⟩;have f:=(ud y).after (S':=S2) (by rw[ud E2];exact o) m;have e0:w3.cell? (U j 0)=J (O d):=(by rw[xO f.head];rfl);have V:=zd f.head;have z:=ze f;have s:=ze (jf (j:=j) m);have n:=ze r;have F:=HS _ _ f.disk;clear f o m r)
       |(go_at_call 127;refine(ud F).mono ?_;rintro e w4 ⟨rfl,v,q⟩;have l:=(ud z).after (S':=S3) (by rw[ud E3];exact v) q;have f0:w4.cell? (U j 0)=J (O d):=(by rw[xO l.head];rfl);have a1:=zd l.head;have L:=ze l;have A:=ze (jf (j:=j) q);have Y:=HN _ _ l.disk;clear l v q)
       |(go_at_call 207;refine(ud Y).mono ?_;rintro e w5 ⟨rfl,a5,P,B,X⟩;have a2:=ze ((ud L).after (S':=S4) (by rw[ud E4];exact P) B);have a3:=ze (jf (j:=j) B);have a4:=ze X;clear P B X))
      go_ret
      exact⟨rfl,⟨a5,ud a2,zA (zA (zA (ud g) (ud b) (ud s)) (qj.trans (ud b) (ud g).size (ud n)) (ud A)) (qj.trans (ud b) (ud g).size (ud n)) (ud a3),qj.trans (qj.trans (ud b) (ud g).size (ud n)) ((zA (zA (ud g) (ud b) (ud s)) (qj.trans (ud b) (ud g).size (ud n)) (ud A))).size (ud a4)⟩⟩
     ·simp only[Z]at G
      simp only[a6]at HS
      simp only[aa]at HN
      go_enter func133,ntmps133
      go_wp2_with(first
       |(go_at_call 205;refine(ud HH).mono ?_;rintro e w0 ⟨rfl,rfl⟩)
       |(go_at_call 206;refine(ud HR).mono ?_;rintro e w1 ⟨rfl,a7,C,t,D⟩;have a:=(ud H).after (S':=S1) (by rw[ud E5];exact C) t;have u:=ze (jf (j:=j) t);have b:=ze D;clear C t D;obtain⟨c,p⟩:=a.setStart ((i.size:Int)+1);have d0:(w1.setCell (U j 1) (I ((i.size:Int)+1))).cell? (U j 0)=J (O d):=(by rw[xO c.head];rfl);have d1:=Jb a.head 1;have d2:w1.cell? (U j 1)=J (I st):=(by rw[xO a.head];rfl);have d3:w1.cell? (U j 0)=J (O d):=(by rw[xO a.head];rfl);have R:=zd a.head;have T:=zd c.head;have y:=ze c;have g:=ze (zA (ud u) (ud b) (p.mono (fun k _ e=> .inl e)));have x:=G _ _ c.disk;clear a c p G)
       |(go_at_call 126;refine(ud x).mono ?_;rintro e w3 ⟨rfl,M,o,m,r⟩;have f:=(ud y).after (S':=S2) (by rw[ud E2];exact o) m;have e0:w3.cell? (U j 0)=J (O d):=(by rw[xO f.head];rfl);have V:=zd f.head;have z:=ze f;have s:=ze (jf (j:=j) m);have n:=ze r;have F:=HS _ _ f.disk;clear f o m r)
       |(go_at_call 127;refine(ud F).mono ?_;rintro e w4 ⟨rfl,v,q⟩;have l:=(ud z).after (S':=S3) (by rw[ud E3];exact v) q;have f0:w4.cell? (U j 0)=J (O d):=(by rw[xO l.head];rfl);have a1:=zd l.head;have L:=ze l;have A:=ze (jf (j:=j) q);have Y:=HN _ _ l.disk;clear l v q)
       |(go_at_call 207;refine(ud Y).mono ?_;rintro e w5 ⟨rfl,a5,P,B,X⟩;have a2:=ze ((ud L).after (S':=S4) (by rw[ud E4];exact P) B);have a3:=ze (jf (j:=j) B);have a4:=ze X;clear P B X))
      go_ret
      exact⟨rfl,⟨a5,ud a2,zA (zA (zA (ud g) (ud b) (ud s)) (qj.trans (ud b) (ud g).size (ud n)) (ud A)) (qj.trans (ud b) (ud g).size (ud n)) (ud a3),qj.trans (qj.trans (ud b) (ud g).size (ud n)) ((zA (zA (ud g) (ud b) (ud s)) (qj.trans (ud b) (ud g).size (ud n)) (ud A))).size (ud a4)⟩⟩
    ·simp only[Z]at G
     simp only[a6]at HS
     go_enter func133,ntmps133
     go_wp2_with(first
      |(go_at_call 205;refine(ud HH).mono ?_;rintro e w0 ⟨rfl,rfl⟩)
      |(go_at_call 206;refine(ud HR).mono ?_;rintro e w1 ⟨rfl,a7,C,t,D⟩;have a:=(ud H).after (S':=S1) (by rw[ud E5];exact C) t;have u:=ze (jf (j:=j) t);have b:=ze D;clear C t D;obtain⟨c,p⟩:=a.setStart ((i.size:Int)+1);have d0:(w1.setCell (U j 1) (I ((i.size:Int)+1))).cell? (U j 0)=J (O d):=(by rw[xO c.head];rfl);have d1:=Jb a.head 1;have d2:w1.cell? (U j 1)=J (I st):=(by rw[xO a.head];rfl);have d3:w1.cell? (U j 0)=J (O d):=(by rw[xO a.head];rfl);have R:=zd a.head;have T:=zd c.head;have y:=ze c;have g:=ze (zA (ud u) (ud b) (p.mono (fun k _ e=> .inl e)));have x:=G _ _ c.disk;clear a c p G)
      |(go_at_call 126;refine(ud x).mono ?_;rintro e w3 ⟨rfl,M,o,m,r⟩;have f:=(ud y).after (S':=S2) (by rw[ud E2];exact o) m;have e0:w3.cell? (U j 0)=J (O d):=(by rw[xO f.head];rfl);have V:=zd f.head;have z:=ze f;have s:=ze (jf (j:=j) m);have n:=ze r;have F:=HS _ _ f.disk;clear f o m r)
      |(go_at_call 127;refine(ud F).mono ?_;rintro e w4 ⟨rfl,v,q⟩;have l:=(ud z).after (S':=S3) (by rw[ud E3];exact v) q;have f0:w4.cell? (U j 0)=J (O d):=(by rw[xO l.head];rfl);have a1:=zd l.head;have L:=ze l;have A:=ze (jf (j:=j) q);have Y:=HN _ _ l.disk;clear l v q))
     go_ret
     exact⟨rfl,⟨M,ud L,(zA (zA (ud g) (ud b) (ud s)) (qj.trans (ud b) (ud g).size (ud n)) (ud A)),(qj.trans (ud b) (ud g).size (ud n))⟩⟩
   ·simp only[Z]at G
    go_enter func133,ntmps133
    go_wp2_with(first
     |(go_at_call 205;refine(ud HH).mono ?_;rintro e w0 ⟨rfl,rfl⟩)
     |(go_at_call 206;refine(ud HR).mono ?_;rintro e w1 ⟨rfl,a7,C,t,D⟩;have a:=(ud H).after (S':=S1) (by rw[ud E5];exact C) t;have u:=ze (jf (j:=j) t);have b:=ze D;clear C t D;obtain⟨c,p⟩:=a.setStart ((i.size:Int)+1);have d0:(w1.setCell (U j 1) (I ((i.size:Int)+1))).cell? (U j 0)=J (O d):=(by rw[xO c.head];rfl);have d1:=Jb a.head 1;have d2:w1.cell? (U j 1)=J (I st):=(by rw[xO a.head];rfl);have d3:w1.cell? (U j 0)=J (O d):=(by rw[xO a.head];rfl);have R:=zd a.head;have T:=zd c.head;have y:=ze c;have g:=ze (zA (ud u) (ud b) (p.mono (fun k _ e=> .inl e)));have x:=G _ _ c.disk;clear a c p G)
     |(go_at_call 126;refine(ud x).mono ?_;rintro e w3 ⟨rfl,M,o,m,r⟩;have f:=(ud y).after (S':=S2) (by rw[ud E2];exact o) m;have e0:w3.cell? (U j 0)=J (O d):=(by rw[xO f.head];rfl);have V:=zd f.head;have z:=ze f;have s:=ze (jf (j:=j) m);have n:=ze r;have F:=HS _ _ f.disk;clear f o m r))
    go_ret
    exact⟨rfl,⟨M,ud z,(zA (ud g) (ud b) (ud s)),(qj.trans (ud b) (ud g).size (ud n))⟩⟩
  ·simp only[ad]at HR
   go_enter func133,ntmps133
   go_wp2_with(first
    |(go_at_call 205;refine(ud HH).mono ?_;rintro e w0 ⟨rfl,rfl⟩)
    |(go_at_call 206;refine(ud HR).mono ?_;rintro e w1 ⟨rfl,a7,C,t,D⟩;have a:=(ud H).after (S':=S1) (by rw[ud E5];exact C) t;have u:=ze (jf (j:=j) t);have b:=ze D;clear C t D;have ae:=ze a;clear a))
   go_ret
   exact⟨rfl,⟨a7,ud ae,ud u,ud b⟩⟩
def Jt(S:DS)(st:Int):Bool:=decide (2*st+4096<(yJ S yk).size)
theorem zcT{S:DS}{N:Nat}(h:DOk S N)(b:ByteArray):(yJ S b).size<=N:=by
 unfold yJ
 cases c:xN S.files b with
 |none=>exact Q _
 |some i=>
  obtain⟨f,a,_,_⟩:=kh c
  simp only[a]
  exact(h.2.2.2 f (List.mem_of_getElem? a)).2
theorem zlk{w:K}{j d:Nat}{st:Int}{S:DS}{fs:E}(h:JAt w j d st S fs)(N:Nat)(k:N<=1099511627776)(a:DOk S N)(f:0<=st/\st<=1099511627776):
  Calls prog 110 #[(O j)] w (Rz w (.bool (Jt S st))):=by
 have HR:=fun W (l:Below w.1.size w W)=>ze (JK 0 d S fs yk W N k a.2.2.1 (h.disk.later l))
 have g:=zcT a yk
 have p:w.cell? (U j 0)=J (O d):=by rw[xO h.head];rfl
 have q:w.cell? (U j 1)=J (I st):=by rw[xO h.head];rfl
 have m:=zd h.head
 obtain⟨t,i⟩:∃t,yJ S yk=t:=⟨_,rfl⟩
 unfold Jt
 rw[i]at g ⊢
 simp only[i]at HR
 unfold yk at HR
 have b:=HR w (Below.refl _ _)
 have c:=HR w.drew (Below.refl _ _).drew
 obtain⟨n,o⟩:=f
 clear h a HR i
 have r:IntKind.i64.wrap (2*st)=2*st:=by rw[IntKind.wrap_i64];omega
 have s:IntKind.i64.wrap (2*st+4096)=2*st+4096:=by rw[IntKind.wrap_i64];omega
 go_enter func110,ntmps110
 go_wp2_with fail
 go_region_held3 (fun w'=>w'.cell? (U j 0)=J (O d)/\w'.cell? (U j 1)=J (I st)) (go_keep) (first
  |(go_at_call 128;(first|(with_reducible refine(ud b).mono ?_)|(with_reducible refine(ud c).mono ?_));rintro e V ⟨rfl,rfl⟩))
 all_goals go_wp2_with fail
 all_goals go_ret
 all_goals exact⟨by simp,(Below.refl _ _).drew⟩
def KR:ByteArray:=⟨#[43]⟩
def ZK(S:DS):DS:=if zo S then zE S yg KR else xI (zE S yg KR) yg
def Yf(S:DS):Bool:=!zo S&&!zo (zE S yg KR)
def zdy(S:DS):Int:=if Yf S then(yJ (xI (zE S yg KR) yg) yg).size else 0
theorem zat{w:K}{d:Nat}{S:DS}{fs:E}(h:zbW w d S fs)(N:Nat)(R:N+10<=1099511627776)(v:DOk S N):
  Calls prog 66 #[(O d)] w fun e w'=>e=.returned (.tuple #[I (zdy S),.bool (Yf S)])/\∃a,zbW w' d (ZK S) a/\zh (foot d fs) w w'/\qj w fs a:=by
 have L:KR.size=1:=rfl
 have p:=ze (Qf 0 d S fs yg KR w N (by omega) v (by omega) (Q _) h)
 have m:DOk (zE S yg KR) (N+1+1):=by have:=vX v yg KR;rwa[L]at this
 have n:DOk (xI (zE S yg KR) yg) (N+1+1+1):=Yl m _
 have s:=fun W a (F:zbW W d (zE S yg KR) a)=>ze (JZ 0 d (zE S yg KR) a yg W _ (by omega) m F)
 have HR:=fun W a (F:zbW W d (xI (zE S yg KR) yg) a)=>ze (JK 0 d (xI (zE S yg KR) yg) a yg W _ (by omega) n.2.2.1 F)
 have z:=zcT n yg
 unfold zdy Yf ZK
 generalize zE S yg KR=H at*
 obtain⟨D,o⟩:∃D,xI H yg=D:=⟨_,rfl⟩
 have P:=ze o
 rw[o]at z ⊢
 simp only[o]at HR s
 obtain⟨t,G⟩:∃t,yJ D yg=t:=⟨_,rfl⟩
 rw[G]at z ⊢
 simp only[G]at HR
 unfold yg KR at p
 unfold yg at HR s
 clear v m n L G o
 cases x:zo S
 ·cases y:zo H
  ·simp only[x]at p
   simp only[y]at s
   clear h
   go_enter func66,ntmps66
   go_wp2_with(first
    |(go_at_call 126;refine(ud p).mono ?_;rintro e A ⟨rfl,b,c,f,g⟩;have u:=s A b c;have k:=ze f;have i:=ze g;clear c f g)
    |(go_at_call 127;refine(ud u).mono ?_;rintro e M ⟨rfl,j,l⟩;have C:=HR M b j;have q:=ze j;have r:=ze l;clear j l)
    |(go_at_call 128;refine(ud C).mono ?_;rintro e T ⟨rfl,rfl⟩))
   go_ret2
   exact⟨rfl,b,ud q,Qk (ud k) (ud i) (ud r),ud i⟩
  ·simp only[x]at p
   simp only[y]at s
   clear h HR
   go_enter func66,ntmps66
   go_wp2_with(first
    |(go_at_call 126;refine(ud p).mono ?_;rintro e A ⟨rfl,b,c,f,g⟩;have u:=s A b c;have k:=ze f;have i:=ze g;clear c f g)
    |(go_at_call 127;refine(ud u).mono ?_;rintro e M ⟨rfl,j,l⟩;have q:=ze j;have r:=ze l;clear j l))
   go_ret2
   exact⟨rfl,b,ud q,Qk (ud k) (ud i) (ud r),ud i⟩
 ·simp only[x]at p
  clear h HR s
  go_enter func66,ntmps66
  go_wp2_with(first
   |(go_at_call 126;refine(ud p).mono ?_;rintro e A ⟨rfl,b,c,f,g⟩;have B:=ze c;have k:=ze f;have i:=ze g;clear c f g))
  go_ret2
  exact⟨rfl,b,ud B,ud k,ud i⟩
def zeW(t:ByteArray):Nat:=(Lib.lastIndexByte t 10+1).toNat
theorem zhz(t:ByteArray):Lib.lastIndexByte t 10=(zeW t:Int)-1/\zeW t<=t.size:=by
 unfold zeW Lib.lastIndexByte
 rcases Lib.lastIdx_spec t 10 t.size with⟨h,-⟩|⟨i,a,h,-⟩
 ·rw[h];exact⟨rfl,Q _⟩
 ·rw[h];constructor<;>omega
theorem zpo(s:ByteArray)(a:s.size<=1099511627776)(w:K):Calls prog 132 #[.string s,.int .u8 10] w fun e w'=>e=.returned (I (Lib.lastIndexByte s 10))/\w'=w:=
 Any.strings_LastIndexByte Tryz.layLI s 10 (by omega) w
theorem ziq(s:ByteArray)(w:K):Calls prog 131 #[.string s] w fun e w'=>e=.returned (.func (.func 202) #[] #[(O w.1.size)])/\w'=w.alloc (.cells #[.string s] 9):=by
 go_enter func131,ntmps131
 go_wp2_with fail
 go_ret
 exact⟨rfl,rfl⟩
theorem zcV{w:K}{d:Nat}{S:DS}{fs:E}(h:zbW w d S fs)(N:Nat)(g:N<=1099511627776)(a:DOk S N):
  Calls prog 72 #[(O d)] w fun e w'=>e=.returned (.func (.func 202) #[] #[(O w.1.size)])/\w'=w.alloc (.cells #[.string ((yJ S yk).extract 0 (zeW (yJ S yk)))] 9):=by
 have HR:=ze (JK 0 d S fs yk w N g a.2.2.1 h)
 have i:=zcT a yk
 generalize yJ S yk=t at*
 obtain⟨c,k⟩:=zhz t
 have b:=ze (zpo t (by omega) w)
 rw[c]at b
 generalize zeW t=n at*
 have f:=ze (ziq (t.extract 0 n) w)
 unfold yk at HR
 clear h a c
 have j:((n:Int)-1+1)=n:=by omega
 go_enter func72,ntmps72
 go_wp2_with(first
  |(go_at_call 128;refine(ud HR).mono ?_;rintro e l ⟨rfl,rfl⟩)
  |(go_at_call 132;refine(ud b).mono ?_;rintro e m ⟨rfl,rfl⟩)
  |(go_at_call 131;refine(ud f).mono ?_;rintro e o ⟨rfl,rfl⟩))
 go_ret
 exact⟨rfl,rfl⟩
def qZ(e:Nat):ByteArray:=⟨Array.replicate e 43⟩
theorem Zy(e:Nat):(qZ e).size=e:=by simp[qZ,ByteArray.size]
theorem zfG(e:Nat):qZ e++KR=qZ (e+1):=by
 apply ByteArray.ext
 rw[ByteArray.data_append]
 simp only[qZ,KR]
 rw[Array.replicate_succ]
 rfl
def jS(e:Nat)(txt:ByteArray):DS:=⟨[⟨yg,qZ e,e⟩,⟨yk,txt,txt.size⟩],-1,false⟩
def jS0(e:Nat):DS:=⟨[⟨yg,qZ e,e⟩],-1,false⟩
theorem bl(a:Array UInt8):(⟨a⟩:ByteArray).toList=a.toList:=by rw[ByteArray.toList_eq]
theorem Xc(a:ByteArray):eqS a a=true:=by simp[eqS]
theorem zkK:eqS yg yk=false:=by simp[eqS,yg,yk,bl]
theorem zeY:eqS yg kQ=false:=by simp[eqS,yg,kQ,bl]
theorem zpf:eqS yk kQ=false:=by simp[eqS,yk,kQ,bl]
theorem zpe:eqS kQ yk=false:=by simp[eqS,yk,kQ,bl]
theorem yb{S:DS}(h:S.left= -1)(a:S.down=false):zo S=false/\zm S=S:=by
 have b:zo S=false:=by unfold zo;rw[h,a];rfl
 refine⟨b,?_⟩
 obtain⟨f,l,d⟩:=S
 dsimp only at h a
 subst h a
 unfold zm;rw[b];rfl
theorem Km(e:Nat)(txt:ByteArray)(k:Nat)(r:List FS):xN (⟨yg,qZ e,e⟩::⟨yk,txt,k⟩::r) yk=J 1:=by
 unfold xN xh xh;rw[zkK,Xc];rfl
theorem zcO(e:Nat)(txt:ByteArray)(k:Nat):xN [⟨yg,qZ e,e⟩,⟨yk,txt,k⟩] kQ=none:=by
 unfold xN xh xh xh;rw[zeY,zpf];rfl
theorem zbi(e:Nat)(txt t2:ByteArray)(k a:Nat):xN [⟨yg,qZ e,e⟩,⟨yk,txt,k⟩,⟨kQ,t2,a⟩] kQ=J 2:=by
 unfold xN xh xh xh;rw[zeY,zpf,Xc];rfl
theorem zbj(e:Nat):xN [⟨yg,qZ e,e⟩] kQ=none:=by
 unfold xN xh xh;rw[zeY];rfl
theorem zbk(e:Nat):xN [⟨yg,qZ e,e⟩] yk=none:=by
 unfold xN xh xh;rw[zkK];rfl
theorem VQ(e:Nat)(t2:ByteArray)(a:Nat):xN [⟨yg,qZ e,e⟩,⟨kQ,t2,a⟩] kQ=J 1:=by
 unfold xN xh xh;rw[zeY,Xc];rfl
theorem ziY(e:Nat)(txt:ByteArray):yJ (jS e txt) yk=txt:=by unfold yJ jS;rw[Km];rfl
theorem zlH(e:Nat):yJ (jS0 e) yk=⟨#[]⟩:=by unfold yJ jS0;rw[zbk]
theorem zdu{e N:Nat}{txt:ByteArray}(b:e<=N)(c:txt.size<=N)(d:2<=N):DOk (jS e txt) N:=by
 refine⟨by show(-1:Int)<= -1;omega,by show(-1:Int)<=9223372036854775807;omega,d,fun f a=>?_⟩
 simp only[jS,List.mem_cons,List.not_mem_nil,or_false]at a
 rcases a with rfl|rfl
 ·rw[Zy];exact⟨Nat.le_refl _,b⟩
 ·exact⟨Nat.le_refl _,c⟩
theorem zmH(e:Nat)(txt a:ByteArray):zbX (jS e txt) a=jS e (txt++(a++nl))/\jU (jS e txt) a=true:=by
 obtain⟨c,g⟩:=yb (S:=jS e txt) rfl rfl
 have h:zE (jS e txt) yk (a++nl)=⟨[⟨yg,qZ e,e⟩,⟨yk,txt++(a++nl),txt.size⟩],-1,false⟩:=by
  rw[yp (i:=1) (f:=⟨yk,txt,txt.size⟩) c (Km e txt txt.size []) rfl,g];rfl
 obtain⟨b,d⟩:=yb (S:=⟨[⟨yg,qZ e,e⟩,⟨yk,txt++(a++nl),txt.size⟩],-1,false⟩) rfl rfl
 unfold zbX jU
 rw[c,h,b]
 refine⟨?_,rfl⟩
 simp only[Bool.false_eq_true,if_false]
 rw[qs (i:=1) (f:=⟨yk,txt++(a++nl),txt.size⟩) b (Km e (txt++(a++nl)) txt.size []) rfl,d];rfl
theorem zjg(e:Nat)(txt a:ByteArray):zei (jS e txt) a=jS e (a++nl)/\Vb (jS e txt) a=true/\zkc (jS e txt)=false:=by
 have b:xN (jS e txt).files kQ=none:=zcO e txt txt.size
 have o:zkc (jS e txt)=false:=by unfold zkc;rw[b];rfl
 have h:zai (jS e txt)=jS e txt:=by unfold zai;rw[b];rfl
 obtain⟨c,a2⟩:=yb (S:=jS e txt) rfl rfl
 have j:zeh (jS e txt) a=⟨[⟨yg,qZ e,e⟩,⟨yk,txt,txt.size⟩,⟨kQ,a++nl,0⟩],-1,false⟩:=by
  unfold zeh;rw[h,qG c b,a2];rfl
 obtain⟨d,l⟩:=yb (S:=⟨[⟨yg,qZ e,e⟩,⟨yk,txt,txt.size⟩,⟨kQ,a++nl,0⟩],-1,false⟩) rfl rfl
 have k:zga (jS e txt) a=⟨[⟨yg,qZ e,e⟩,⟨yk,txt,txt.size⟩,⟨kQ,a++nl,(a++nl).size⟩],-1,false⟩:=by
  unfold zga;rw[j,qs (i:=2) (f:=⟨kQ,a++nl,0⟩) d (zbi e txt _ _ _) rfl,l];rfl
 obtain⟨g,m⟩:=yb (S:=⟨[⟨yg,qZ e,e⟩,⟨yk,txt,txt.size⟩,⟨kQ,a++nl,(a++nl).size⟩],-1,false⟩) rfl rfl
 have n:zoj (jS e txt) a=jS e (a++nl):=by
  unfold zoj
  rw[k,vM (i:=2) (f:=⟨kQ,a++nl,(a++nl).size⟩) g (zbi e txt _ _ _) rfl zpe,m]
  simp[yW,zkK,zeY,Xc,jS]
 unfold zei Vb
 rw[o,h,j,k,c,d,g,n]
 exact⟨rfl,rfl,rfl⟩
theorem zjh(e:Nat)(a:ByteArray):zei (jS0 e) a=jS e (a++nl)/\Vb (jS0 e) a=true/\zkc (jS0 e)=false:=by
 have b:xN (jS0 e).files kQ=none:=zbj e
 have o:zkc (jS0 e)=false:=by unfold zkc;rw[b];rfl
 have h:zai (jS0 e)=jS0 e:=by unfold zai;rw[b];rfl
 obtain⟨c,a2⟩:=yb (S:=jS0 e) rfl rfl
 have j:zeh (jS0 e) a=⟨[⟨yg,qZ e,e⟩,⟨kQ,a++nl,0⟩],-1,false⟩:=by
  unfold zeh;rw[h,qG c b,a2];rfl
 obtain⟨d,l⟩:=yb (S:=⟨[⟨yg,qZ e,e⟩,⟨kQ,a++nl,0⟩],-1,false⟩) rfl rfl
 have k:zga (jS0 e) a=⟨[⟨yg,qZ e,e⟩,⟨kQ,a++nl,(a++nl).size⟩],-1,false⟩:=by
  unfold zga;rw[j,qs (i:=1) (f:=⟨kQ,a++nl,0⟩) d (VQ e _ _) rfl,l];rfl
 obtain⟨g,m⟩:=yb (S:=⟨[⟨yg,qZ e,e⟩,⟨kQ,a++nl,(a++nl).size⟩],-1,false⟩) rfl rfl
 have n:zoj (jS0 e) a=jS e (a++nl):=by
  unfold zoj
  rw[k,vM (i:=1) (f:=⟨kQ,a++nl,(a++nl).size⟩) g (VQ e _ _) rfl zpe,m]
  simp[yW,zkK,zeY,Xc,jS]
 unfold zei Vb
 rw[o,h,j,k,c,d,g,n]
 exact⟨rfl,rfl,rfl⟩
theorem znf:ZK Yi=jS0 1/\Yf Yi=true/\zdy Yi=1:=by
 obtain⟨a,a2⟩:=yb (S:=Yi) rfl rfl
 have b:zE Yi yg KR=⟨[⟨yg,qZ 1,0⟩],-1,false⟩:=by
  rw[qG a rfl,a2];rfl
 obtain⟨c,h⟩:=yb (S:=⟨[⟨yg,qZ 1,0⟩],-1,false⟩) rfl rfl
 have g:∀k,xN [⟨yg,qZ 1,k⟩] yg=J 0:=fun k=>by unfold xN xh;rw[Xc];rfl
 have d:xI ⟨[⟨yg,qZ 1,0⟩],-1,false⟩ yg=jS0 1:=by
  rw[qs (i:=0) (f:=⟨yg,qZ 1,0⟩) c (g 0) rfl,h];rfl
 have e:Yf Yi=true:=by unfold Yf;rw[b,a,c];rfl
 refine⟨by unfold ZK;rw[a,b,d];rfl,e,?_⟩
 unfold zdy
 rw[e,b,d]
 unfold yJ jS0
 rw[g 1]
 rfl
theorem zpa(e:Nat)(txt:ByteArray):ZK (jS e txt)=jS (e+1) txt/\Yf (jS e txt)=true/\zdy (jS e txt)=e+1:=by
 obtain⟨a,a2⟩:=yb (S:=jS e txt) rfl rfl
 have c:∀(p:ByteArray) (k:Nat) (r:List FS),xN (⟨yg,p,k⟩::r) yg=J 0:=fun p k r=>by unfold xN xh;rw[Xc];rfl
 have b:zE (jS e txt) yg KR=⟨[⟨yg,qZ (e+1),e⟩,⟨yk,txt,txt.size⟩],-1,false⟩:=by
  rw[yp (i:=0) (f:=⟨yg,qZ e,e⟩) a (c _ _ _) rfl,a2,<-zfG];rfl
 obtain⟨d,j⟩:=yb (S:=⟨[⟨yg,qZ (e+1),e⟩,⟨yk,txt,txt.size⟩],-1,false⟩) rfl rfl
 have g:xI ⟨[⟨yg,qZ (e+1),e⟩,⟨yk,txt,txt.size⟩],-1,false⟩ yg=jS (e+1) txt:=by
  rw[qs (i:=0) (f:=⟨yg,qZ (e+1),e⟩) d (c _ _ _) rfl,j]
  simp[jS,Zy]
 have h:Yf (jS e txt)=true:=by unfold Yf;rw[b,a,d];rfl
 refine⟨by unfold ZK;rw[a,b,g];rfl,h,?_⟩
 unfold zdy
 rw[h,b,g]
 unfold yJ jS
 rw[c]
 simp[Zy]
end Go.Proofs.YtndhpgciopcncaaGreatDoor
