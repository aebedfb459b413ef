import Derived.Test.YtndhpgciopcncaaGreatDoorHDisk7
import Derived.Test.YtndhpgciopcncaaGreatDoorHHaltedFact
import Derived.Deep.RegionHeld3
open Option renaming some → J
open Nat renaming zero_le → K
set_option linter.unusedVariables false
set_option maxRecDepth 8000
set_option maxHeartbeats 8000000
open Go.Proofs.Tryz
namespace Go.Proofs.YtndhpgciopcncaaGreatDoor
open Go.RowKit Go.Shelf
variable {S:DS} {st:Int} {N N' d j:Nat} {a b fs:Value} {w w' w1 w2:World}
theorem kX(h:DOk S N)(a:N<=N'):DOk S N':=⟨h.1,h.2.1,Nat.le_trans h.2.2.1 a,fun f b=>⟨(h.2.2.2 f b).1,Nat.le_trans (h.2.2.2 f b).2 a⟩⟩
theorem vu(h:DOk S N):DOk (zm S) N:=by
 obtain⟨c,d,a,b⟩:=h;unfold zm;split
 ·exact⟨c,d,a,b⟩
 ·refine⟨?_,?_,a,b⟩<;>(dsimp only;split<;>omega)
theorem XM(h:DOk S N)(l:List FS)(b:l.length<=N')(a:∀f∈l,f.safe<=f.data.size/\f.data.size<=N'):DOk {S with files:=l} N':=⟨h.1,h.2.1,b,a⟩
theorem J1{l:List FS}{i:Nat}{x f:FS}(h:f∈l.set i x):f=x\/f∈l:=by
 rcases List.mem_or_eq_of_mem_set h with h|h
 ·exact .inr h
 ·exact .inl h
theorem jv(h:DOk S N)(n s:ByteArray):DOk (zD S n s) (N+s.size+1):=by
 cases d:zj S
 ·have b:=vu h;cases c:xL S.files n with
  |none=>
   rw[qD d c];refine XM b _ (by simp;have:=b.2.2.1;omega) (fun f a=>?_);rcases List.mem_append.1 a with a|a
   ·have:=b.2.2.2 f a;omega
   ·simp at a;subst a;exact⟨K _,by dsimp only;omega⟩
  |some i=>
   obtain⟨g,e,_,_⟩:=ku c;rw[qP d c e];refine XM b _ (by simp;have:=b.2.2.1;omega) (fun f a=>?_);have j:=b.2.2.2 g (List.mem_of_getElem? (by rw[zr];exact e));rcases J1 a with rfl|a
   ·dsimp only;rw[ByteArray.size_append];omega
   ·have:=b.2.2.2 f a;omega
 ·rw[xS d];exact kX (vu h) (by omega)
theorem Ys(h:DOk S N)(n:ByteArray):DOk (xM S n) (N+1):=by
 cases b:zj S
 ·have c:=vu h;cases a:xL S.files n with
  |none=>rw[X8 b a];exact kX c (by omega)
  |some i=>
   obtain⟨g,d,_,_⟩:=ku a;rw[xX b a d];refine XM c _ (by simp;have:=c.2.2.1;omega) (fun f e=>?_);have j:=c.2.2.2 g (List.mem_of_getElem? (by rw[zr];exact d));rcases J1 e with rfl|e
   ·dsimp only;omega
   ·have:=c.2.2.2 f e;omega
 ·rw[yi b];exact kX (vu h) (by omega)
theorem zfe(h:DOk S N)(n:ByteArray):DOk (qG S n) (N+1):=by
 have a:=vu h;unfold qG;split
 ·exact kX a (by omega)
 ·refine XM a _ (by have:=List.length_filter_le (fun f:FS=>!eqS f.name n) (zm S).files;have:=a.2.2.1;unfold ZL;omega) (fun f b=>?_);have:=a.2.2.2 f ((List.mem_filter.1 b).1);omega
def xY:ByteArray:=⟨#[114,101,99,111,114,100,115]⟩
def yc:ByteArray:=⟨#[114,101,99,111,114,100,115,46,110,101,119]⟩
def qh:ByteArray:=⟨#[111,112,101,110,105,110,103,115]⟩
def nl:ByteArray:=⟨#[10]⟩
abbrev Yt(w:World)(d:Nat)(S:DS)(fs:Value):Prop:=zx 111 113 0 w d S fs
def qw(w:World)(fs a:Value):Prop:=∀k,a.ownBlock=J k->fs.ownBlock=J k\/w.1.size<=k
theorem qw.refl(w:World)(fs:Value):qw w fs fs:=fun _ h=> .inl h
theorem qw.trans{c:Value}(h:qw w a b)(f:w.1.size<=w1.1.size)(k:qw w1 b c):qw w a c:=fun i e=>by
 rcases k i e with d|d
 ·exact h i d
 ·exact .inr (Nat.le_trans f d)
theorem Qu(c:zi (foot d a) w w1)(hn:qw w a b)(f:zi (foot d b) w1 w2):zi (foot d a) w w2:=c.trans f (fun k g e=>by
 rcases e with e|e
 ·exact .inl e
 ·rcases hn k e with h|h
  ·exact .inr h
  ·omega)
structure JAt(w:World)(j d:Nat)(st:Int)(S:DS)(fs:Value):Prop where
 head:w.1[j]?=J (.cells #[(O d),I st] 216 (0,0))
 disk:Yt w d S fs
theorem JAt.apart(h:JAt w j d st S fs):¬foot d fs j:=fun e=>by
 have a:=h.head;rcases e with e|e
 ·rw[e,h.disk.head]at a;injection a with a;injection a with f b;exact absurd b (by decide)
 ·obtain⟨c,g⟩:=zH h.disk.row e;rw[g]at a;injection a with a;injection a with f b;exact absurd b (by decide)
theorem JAt.after{S':DS}{a:Value}(h:JAt w j d st S fs)(b:Yt w' d S' a)(c:zi (foot d fs) w w'):JAt w' j d st S' a:=⟨c.heap h.head h.apart,b⟩
def Qa(S:DS)(rec:ByteArray):DS:=if zj S then zD S xY (rec++nl)else xM (zD S xY (rec++nl)) xY
def yR(S:DS)(rec:ByteArray):Bool:=!zj S&&!zj (zD S xY (rec++nl))
theorem kQ(r:ByteArray):(r++nl).size=r.size+1:=by rw[ByteArray.size_append];rfl
theorem zoq(h:JAt w j d st S fs)(rec:ByteArray)(N:Nat)(A:N+rec.size+2<=1099511627776)(m:DOk S N):
  Calls prog 107 #[(O j),.string rec] w fun e w'=>e=.returned (.bool (yR S rec))/\∃f,JAt w' j d st (Qa S rec) f/\zi (foot d fs) w w'/\qw w fs f:=by
 have z:=kQ rec;have p:=ze (Qq 0 d S fs xY (rec++nl) w N (by omega) m (by omega) (K _) h.disk);have b:=jv m xY (rec++nl);rw[z]at b;have v:=fun W f (C:Yt W d (zD S xY (rec++nl)) f)=>ze (zay 0 d (zD S xY (rec++nl)) f xY W _ (by omega) b C);have G:w.cell? (U j 0)=J (O d):=by rw[xT h.head];rfl
 have D:=zd h.head;have H:=ze h;have E:rec.size<=1099511627776:=by omega
 unfold Qa yR;generalize r:zD S xY (rec++nl)=F at*;unfold xY nl at p;unfold xY at v;cases u:zj S
 ·rw[u]at p;clear h m b z A r;go_enter func107,ntmps107;go_wp2_with(first
   |(go_at_call 126;refine(ud p).mono ?_;rintro e w1 ⟨rfl,k,c,a,g⟩;have l:=(ud H).after c a;have I:w1.cell? (U j 0)=J (O d):=(by rw[xT l.head];rfl);have B:=zd l.head;have y:=v w1 k c;have n:=ze l;have o:=ze a;have i:=ze g;clear l c a g v)
   |(go_at_call 127;refine(ud y).mono ?_;rintro e w2 ⟨rfl,s,t⟩;have x:=ze s;have q:=ze t;clear s t))
  go_ret;exact⟨by simp,k,(ud n).after (ud x) (ud q),Qu (ud o) (ud i) (ud q),ud i⟩
 ·rw[u]at p;clear h m b z A r v;go_enter func107,ntmps107;go_wp2_with(go_at_call 126;refine(ud p).mono ?_;rintro e w1 ⟨rfl,k,c,a,g⟩;have n:=ze ((ud H).after c a);have o:=ze a;have i:=ze g;clear c a g);go_ret;exact⟨by simp,k,ud n,ud o,ud i⟩
def zce(S:DS):Bool:=(xL S.files yc).isSome&&zj S
def YD(S:DS):DS:=if(xL S.files yc).isSome then qG S yc else S
def Jg(S:DS)(rec:ByteArray):DS:=zD (YD S) yc (rec++nl)
def zao(S:DS)(rec:ByteArray):DS:=xM (Jg S rec) yc
def zgR(S:DS)(rec:ByteArray):DS:=qt (zao S rec) yc xY
def Xj(S:DS)(rec:ByteArray):DS:=if zce S then YD S else if zj (YD S)then Jg S rec else if zj (Jg S rec)then zao S rec else zgR S rec
def QJ(S:DS)(rec:ByteArray):Bool:=!zce S&&!zj (YD S)&&!zj (Jg S rec)&&!zj (zao S rec)
def Vu(S:DS)(rec:ByteArray)(st:Int):Int:=if zce S then st else rec.size+1
theorem zkq(h:DOk S N):DOk (YD S) (N+1):=by
 unfold YD;split
 ·exact zfe h _
 ·exact kX h (by omega)
theorem JAt.setStart(h:JAt w j d st S fs)(n:Int):JAt (w.setCell (U j 1) (I n)) j d n S fs/\zi (fun k=>k=j) w (w.setCell (U j 1) (I n)):=by
 have a:zi (fun k=>k=j) w (w.setCell (U j 1) (I n)):=zi.setCell (f:=fun k=>k=j) (zi.refl _ _) (p:=(U j 1)) (fun _=>rfl) _;exact⟨⟨zqu h.head _,h.disk.kept a (fun k b e=>by subst e;exact h.apart b)⟩,a⟩
def Zt(j d:Nat)(fs:Value)(k:Nat):Prop:=k=j\/foot d fs k
theorem zB(c:zi (Zt j d a) w w1)(hn:qw w a b)(f:zi (Zt j d b) w1 w2):zi (Zt j d a) w w2:=c.trans f (fun k g e=>by
 rcases e with e|e|e
 ·exact .inl e
 ·exact .inr (.inl e)
 ·rcases hn k e with h|h
  ·exact .inr (.inr h)
  ·omega)
theorem jf(h:zi (foot d fs) w w'):zi (Zt j d fs) w w':=h.mono (fun k _ e=> .inr e)
def JEnd(w w':World)(j d:Nat)(fs:Value)(st':Int)(S':DS):Prop:=∃a,JAt w' j d st' S' a/\zi (Zt j d fs) w w'/\qw w fs a
theorem zjn(h:JAt w j d st S fs)(rec:ByteArray)(N:Nat)(hN:N+rec.size+10<=1099511627776)(a8:DOk S N):
  Calls prog 133 #[(O j),.string rec] w fun e w'=>e=.returned (.bool (QJ S rec))/\JEnd w w' j d fs (Vu S rec st) (Xj S rec):=by
 have hr:=kQ rec;have a5:=zkq a8;have a6:DOk (Jg S rec) (N+1+(rec.size+1)+1):=by rw[<-hr];exact jv a5 _ _
 have a9:DOk (zao S rec) (N+1+(rec.size+1)+1+1):=Ys a6 _;have ad:rec.size<=1099511627776:=by omega
 have HH:=ze (zod 0 d S fs yc w N (by omega) a8.2.2.1 h.disk);have HR:=ze (zgq 0 d S fs yc w N (by omega) a8 (K _) h.disk);have E:=fun W X (hd:Yt W d (YD S) X)=>ze (Qq 0 d (YD S) X yc (rec++nl) W _ (by omega) a5 (by omega) (K _) hd);have HS:=fun W X (hd:Yt W d (Jg S rec) X)=>ze (zay 0 d (Jg S rec) X yc W _ (by omega) a6 hd);have HN:=fun W X (hd:Yt W d (zao S rec) X)=>ze (zgr 0 d (zao S rec) X yc xY W _ (by omega) a9 (K _) hd);have E2:Hid (Jg S rec=zD (YD S) yc (rec++nl)):=rfl;have E3:Hid (zao S rec=xM (Jg S rec) yc):=rfl;have E4:Hid (zgR S rec=qt (zao S rec) yc xY):=rfl;have E1:Hid ((xL S.files yc).isSome=true->YD S=qG S yc):=fun e=>by unfold YD;rw[if_pos e]
 have E0:Hid ((xL S.files yc).isSome=false->YD S=S):=fun e=>by unfold YD;rw[if_neg (by simp[e])]
 unfold QJ Xj Vu zce;have c0:w.cell? (U j 0)=J (O d):=by rw[xT h.head];rfl
 have ac:=zd h.head;have H:=ze h;generalize(xL S.files yc).isSome=hp at*;generalize YD S=S1 at*;generalize Jg S rec=S2 at*;generalize zao S rec=S3 at*;generalize zgR S rec=S4 at*;unfold yc at HH HR;unfold yc nl at E;unfold yc at HS;unfold yc xY at HN;clear h a8 a5 a6 a9 hr hN;cases hp
 ·clear HR E1;cases V:zj S1
  ·cases a3:zj S2
   ·cases a7:zj S3
    ·simp only[V]at E;simp only[a3]at HS;simp only[a7]at HN;have a:JAt w j d st S1 fs:=(by rw[ud E0 rfl];exact ud H);have t:Hid (zi (Zt j d fs) w w):=zi.refl _ _;have b:Hid (qw w fs fs):=qw.refl _ _;obtain⟨c,o⟩:=a.setStart ((rec.size:Int)+1);have d0:(w.setCell (U j 1) (I ((rec.size:Int)+1))).cell? (U j 0)=J (O d):=(by rw[xT c.head];rfl);have d1:=JF a.head 1;have d2:w.cell? (U j 1)=J (I st):=(by rw[xT a.head];rfl);have d3:w.cell? (U j 0)=J (O d):=(by rw[xT a.head];rfl);have M:=zd a.head;have P:=zd c.head;have x:=ze c;have g:=ze (zB (ud t) (ud b) (o.mono (fun k _ e=> .inl e)));have v:=E _ _ c.disk;clear a c o E;go_enter func133,ntmps133;go_wp2_with(first
      |(go_at_call 205;refine(ud HH).mono ?_;rintro e w0 ⟨rfl,rfl⟩)
      |(go_at_call 126;refine(ud v).mono ?_;rintro e w3 ⟨rfl,G,n,l,q⟩;have f:=(ud x).after (S':=S2) (by rw[ud E2];exact n) l;have e0:w3.cell? (U j 0)=J (O d):=(by rw[xT f.head];rfl);have Q:=zd f.head;have y:=ze f;have r:=ze (jf (j:=j) l);have m:=ze q;have D:=HS _ _ f.disk;clear f n l q)
      |(go_at_call 127;refine(ud D).mono ?_;rintro e w4 ⟨rfl,u,p⟩;have i:=(ud y).after (S':=S3) (by rw[ud E3];exact u) p;have f0:w4.cell? (U j 0)=J (O d):=(by rw[xT i.head];rfl);have Y:=zd i.head;have F:=ze i;have z:=ze (jf (j:=j) p);have T:=HN _ _ i.disk;clear i u p)
      |(go_at_call 207;refine(ud T).mono ?_;rintro e w5 ⟨rfl,a2,L,A,R⟩;have Z:=ze ((ud F).after (S':=S4) (by rw[ud E4];exact L) A);have a0:=ze (jf (j:=j) A);have a1:=ze R;clear L A R))
     go_ret;exact⟨rfl,⟨a2,ud Z,zB (zB (zB (ud g) (ud b) (ud r)) (qw.trans (ud b) (ud g).size (ud m)) (ud z)) (qw.trans (ud b) (ud g).size (ud m)) (ud a0),qw.trans (qw.trans (ud b) (ud g).size (ud m)) ((zB (zB (ud g) (ud b) (ud r)) (qw.trans (ud b) (ud g).size (ud m)) (ud z))).size (ud a1)⟩⟩
    ·simp only[V]at E;simp only[a3]at HS;simp only[a7]at HN;have a:JAt w j d st S1 fs:=(by rw[ud E0 rfl];exact ud H);have t:Hid (zi (Zt j d fs) w w):=zi.refl _ _;have b:Hid (qw w fs fs):=qw.refl _ _;obtain⟨c,o⟩:=a.setStart ((rec.size:Int)+1);have d0:(w.setCell (U j 1) (I ((rec.size:Int)+1))).cell? (U j 0)=J (O d):=(by rw[xT c.head];rfl);have d1:=JF a.head 1;have d2:w.cell? (U j 1)=J (I st):=(by rw[xT a.head];rfl);have d3:w.cell? (U j 0)=J (O d):=(by rw[xT a.head];rfl);have M:=zd a.head;have P:=zd c.head;have x:=ze c;have g:=ze (zB (ud t) (ud b) (o.mono (fun k _ e=> .inl e)));have v:=E _ _ c.disk;clear a c o E;go_enter func133,ntmps133;go_wp2_with(first
      |(go_at_call 205;refine(ud HH).mono ?_;rintro e w0 ⟨rfl,rfl⟩)
      |(go_at_call 126;refine(ud v).mono ?_;rintro e w3 ⟨rfl,G,n,l,q⟩;have f:=(ud x).after (S':=S2) (by rw[ud E2];exact n) l;have e0:w3.cell? (U j 0)=J (O d):=(by rw[xT f.head];rfl);have Q:=zd f.head;have y:=ze f;have r:=ze (jf (j:=j) l);have m:=ze q;have D:=HS _ _ f.disk;clear f n l q)
      |(go_at_call 127;refine(ud D).mono ?_;rintro e w4 ⟨rfl,u,p⟩;have i:=(ud y).after (S':=S3) (by rw[ud E3];exact u) p;have f0:w4.cell? (U j 0)=J (O d):=(by rw[xT i.head];rfl);have Y:=zd i.head;have F:=ze i;have z:=ze (jf (j:=j) p);have T:=HN _ _ i.disk;clear i u p)
      |(go_at_call 207;refine(ud T).mono ?_;rintro e w5 ⟨rfl,a2,L,A,R⟩;have Z:=ze ((ud F).after (S':=S4) (by rw[ud E4];exact L) A);have a0:=ze (jf (j:=j) A);have a1:=ze R;clear L A R))
     go_ret;exact⟨rfl,⟨a2,ud Z,zB (zB (zB (ud g) (ud b) (ud r)) (qw.trans (ud b) (ud g).size (ud m)) (ud z)) (qw.trans (ud b) (ud g).size (ud m)) (ud a0),qw.trans (qw.trans (ud b) (ud g).size (ud m)) ((zB (zB (ud g) (ud b) (ud r)) (qw.trans (ud b) (ud g).size (ud m)) (ud z))).size (ud a1)⟩⟩
   ·simp only[V]at E;simp only[a3]at HS;have a:JAt w j d st S1 fs:=(by rw[ud E0 rfl];exact ud H);have t:Hid (zi (Zt j d fs) w w):=zi.refl _ _;have b:Hid (qw w fs fs):=qw.refl _ _;obtain⟨c,o⟩:=a.setStart ((rec.size:Int)+1);have d0:(w.setCell (U j 1) (I ((rec.size:Int)+1))).cell? (U j 0)=J (O d):=(by rw[xT c.head];rfl);have d1:=JF a.head 1;have d2:w.cell? (U j 1)=J (I st):=(by rw[xT a.head];rfl);have d3:w.cell? (U j 0)=J (O d):=(by rw[xT a.head];rfl);have M:=zd a.head;have P:=zd c.head;have x:=ze c;have g:=ze (zB (ud t) (ud b) (o.mono (fun k _ e=> .inl e)));have v:=E _ _ c.disk;clear a c o E;go_enter func133,ntmps133;go_wp2_with(first
     |(go_at_call 205;refine(ud HH).mono ?_;rintro e w0 ⟨rfl,rfl⟩)
     |(go_at_call 126;refine(ud v).mono ?_;rintro e w3 ⟨rfl,G,n,l,q⟩;have f:=(ud x).after (S':=S2) (by rw[ud E2];exact n) l;have e0:w3.cell? (U j 0)=J (O d):=(by rw[xT f.head];rfl);have Q:=zd f.head;have y:=ze f;have r:=ze (jf (j:=j) l);have m:=ze q;have D:=HS _ _ f.disk;clear f n l q)
     |(go_at_call 127;refine(ud D).mono ?_;rintro e w4 ⟨rfl,u,p⟩;have i:=(ud y).after (S':=S3) (by rw[ud E3];exact u) p;have f0:w4.cell? (U j 0)=J (O d):=(by rw[xT i.head];rfl);have Y:=zd i.head;have F:=ze i;have z:=ze (jf (j:=j) p);have T:=HN _ _ i.disk;clear i u p))
    go_ret;exact⟨rfl,⟨G,ud F,(zB (zB (ud g) (ud b) (ud r)) (qw.trans (ud b) (ud g).size (ud m)) (ud z)),(qw.trans (ud b) (ud g).size (ud m))⟩⟩
  ·simp only[V]at E;have a:JAt w j d st S1 fs:=(by rw[ud E0 rfl];exact ud H);have t:Hid (zi (Zt j d fs) w w):=zi.refl _ _;have b:Hid (qw w fs fs):=qw.refl _ _;obtain⟨c,o⟩:=a.setStart ((rec.size:Int)+1);have d0:(w.setCell (U j 1) (I ((rec.size:Int)+1))).cell? (U j 0)=J (O d):=(by rw[xT c.head];rfl);have d1:=JF a.head 1;have d2:w.cell? (U j 1)=J (I st):=(by rw[xT a.head];rfl);have d3:w.cell? (U j 0)=J (O d):=(by rw[xT a.head];rfl);have M:=zd a.head;have P:=zd c.head;have x:=ze c;have g:=ze (zB (ud t) (ud b) (o.mono (fun k _ e=> .inl e)));have v:=E _ _ c.disk;clear a c o E;go_enter func133,ntmps133;go_wp2_with(first
    |(go_at_call 205;refine(ud HH).mono ?_;rintro e w0 ⟨rfl,rfl⟩)
    |(go_at_call 126;refine(ud v).mono ?_;rintro e w3 ⟨rfl,G,n,l,q⟩;have f:=(ud x).after (S':=S2) (by rw[ud E2];exact n) l;have e0:w3.cell? (U j 0)=J (O d):=(by rw[xT f.head];rfl);have Q:=zd f.head;have y:=ze f;have r:=ze (jf (j:=j) l);have m:=ze q;have D:=HS _ _ f.disk;clear f n l q))
   go_ret;exact⟨rfl,⟨G,ud y,(zB (ud g) (ud b) (ud r)),(qw.trans (ud b) (ud g).size (ud m))⟩⟩
 ·clear E0;have E5:=ze (ud E1 rfl);clear E1;cases aa:zj S
  ·simp only[aa]at HR;cases V:zj S1
   ·cases a3:zj S2
    ·cases a7:zj S3
     ·simp only[V]at E;simp only[a3]at HS;simp only[a7]at HN;go_enter func133,ntmps133;go_wp2_with(first
       |(go_at_call 205;refine(ud HH).mono ?_;rintro e w0 ⟨rfl,rfl⟩)
       |(go_at_call 206;refine(ud HR).mono ?_;rintro e w1 ⟨rfl,a4,B,s,C⟩;have a:=(ud H).after (S':=S1) (by rw[ud E5];exact B) s;have t:=ze (jf (j:=j) s);have b:=ze C;clear B s C;obtain⟨c,o⟩:=a.setStart ((rec.size:Int)+1);have d0:(w1.setCell (U j 1) (I ((rec.size:Int)+1))).cell? (U j 0)=J (O d):=(by rw[xT c.head];rfl);have d1:=JF a.head 1;have d2:w1.cell? (U j 1)=J (I st):=(by rw[xT a.head];rfl);have d3:w1.cell? (U j 0)=J (O d):=(by rw[xT a.head];rfl);have M:=zd a.head;have P:=zd c.head;have x:=ze c;have g:=ze (zB (ud t) (ud b) (o.mono (fun k _ e=> .inl e)));have v:=E _ _ c.disk;clear a c o E)
       |(go_at_call 126;refine(ud v).mono ?_;rintro e w3 ⟨rfl,G,n,l,q⟩;have f:=(ud x).after (S':=S2) (by rw[ud E2];exact n) l;have e0:w3.cell? (U j 0)=J (O d):=(by rw[xT f.head];rfl);have Q:=zd f.head;have y:=ze f;have r:=ze (jf (j:=j) l);have m:=ze q;have D:=HS _ _ f.disk;clear f n l q)
       |(go_at_call 127;refine(ud D).mono ?_;rintro e w4 ⟨rfl,u,p⟩;have i:=(ud y).after (S':=S3) (by rw[ud E3];exact u) p;have f0:w4.cell? (U j 0)=J (O d):=(by rw[xT i.head];rfl);have Y:=zd i.head;have F:=ze i;have z:=ze (jf (j:=j) p);have T:=HN _ _ i.disk;clear i u p)
       |(go_at_call 207;refine(ud T).mono ?_;rintro e w5 ⟨rfl,a2,L,A,R⟩;have Z:=ze ((ud F).after (S':=S4) (by rw[ud E4];exact L) A);have a0:=ze (jf (j:=j) A);have a1:=ze R;clear L A R))
      go_ret;exact⟨rfl,⟨a2,ud Z,zB (zB (zB (ud g) (ud b) (ud r)) (qw.trans (ud b) (ud g).size (ud m)) (ud z)) (qw.trans (ud b) (ud g).size (ud m)) (ud a0),qw.trans (qw.trans (ud b) (ud g).size (ud m)) ((zB (zB (ud g) (ud b) (ud r)) (qw.trans (ud b) (ud g).size (ud m)) (ud z))).size (ud a1)⟩⟩
     ·simp only[V]at E;simp only[a3]at HS;simp only[a7]at HN;go_enter func133,ntmps133;go_wp2_with(first
       |(go_at_call 205;refine(ud HH).mono ?_;rintro e w0 ⟨rfl,rfl⟩)
       |(go_at_call 206;refine(ud HR).mono ?_;rintro e w1 ⟨rfl,a4,B,s,C⟩;have a:=(ud H).after (S':=S1) (by rw[ud E5];exact B) s;have t:=ze (jf (j:=j) s);have b:=ze C;clear B s C;obtain⟨c,o⟩:=a.setStart ((rec.size:Int)+1);have d0:(w1.setCell (U j 1) (I ((rec.size:Int)+1))).cell? (U j 0)=J (O d):=(by rw[xT c.head];rfl);have d1:=JF a.head 1;have d2:w1.cell? (U j 1)=J (I st):=(by rw[xT a.head];rfl);have d3:w1.cell? (U j 0)=J (O d):=(by rw[xT a.head];rfl);have M:=zd a.head;have P:=zd c.head;have x:=ze c;have g:=ze (zB (ud t) (ud b) (o.mono (fun k _ e=> .inl e)));have v:=E _ _ c.disk;clear a c o E)
       |(go_at_call 126;refine(ud v).mono ?_;rintro e w3 ⟨rfl,G,n,l,q⟩;have f:=(ud x).after (S':=S2) (by rw[ud E2];exact n) l;have e0:w3.cell? (U j 0)=J (O d):=(by rw[xT f.head];rfl);have Q:=zd f.head;have y:=ze f;have r:=ze (jf (j:=j) l);have m:=ze q;have D:=HS _ _ f.disk;clear f n l q)
       |(go_at_call 127;refine(ud D).mono ?_;rintro e w4 ⟨rfl,u,p⟩;have i:=(ud y).after (S':=S3) (by rw[ud E3];exact u) p;have f0:w4.cell? (U j 0)=J (O d):=(by rw[xT i.head];rfl);have Y:=zd i.head;have F:=ze i;have z:=ze (jf (j:=j) p);have T:=HN _ _ i.disk;clear i u p)
       |(go_at_call 207;refine(ud T).mono ?_;rintro e w5 ⟨rfl,a2,L,A,R⟩;have Z:=ze ((ud F).after (S':=S4) (by rw[ud E4];exact L) A);have a0:=ze (jf (j:=j) A);have a1:=ze R;clear L A R))
      go_ret;exact⟨rfl,⟨a2,ud Z,zB (zB (zB (ud g) (ud b) (ud r)) (qw.trans (ud b) (ud g).size (ud m)) (ud z)) (qw.trans (ud b) (ud g).size (ud m)) (ud a0),qw.trans (qw.trans (ud b) (ud g).size (ud m)) ((zB (zB (ud g) (ud b) (ud r)) (qw.trans (ud b) (ud g).size (ud m)) (ud z))).size (ud a1)⟩⟩
    ·simp only[V]at E;simp only[a3]at HS;go_enter func133,ntmps133;go_wp2_with(first
      |(go_at_call 205;refine(ud HH).mono ?_;rintro e w0 ⟨rfl,rfl⟩)
      |(go_at_call 206;refine(ud HR).mono ?_;rintro e w1 ⟨rfl,a4,B,s,C⟩;have a:=(ud H).after (S':=S1) (by rw[ud E5];exact B) s;have t:=ze (jf (j:=j) s);have b:=ze C;clear B s C;obtain⟨c,o⟩:=a.setStart ((rec.size:Int)+1);have d0:(w1.setCell (U j 1) (I ((rec.size:Int)+1))).cell? (U j 0)=J (O d):=(by rw[xT c.head];rfl);have d1:=JF a.head 1;have d2:w1.cell? (U j 1)=J (I st):=(by rw[xT a.head];rfl);have d3:w1.cell? (U j 0)=J (O d):=(by rw[xT a.head];rfl);have M:=zd a.head;have P:=zd c.head;have x:=ze c;have g:=ze (zB (ud t) (ud b) (o.mono (fun k _ e=> .inl e)));have v:=E _ _ c.disk;clear a c o E)
      |(go_at_call 126;refine(ud v).mono ?_;rintro e w3 ⟨rfl,G,n,l,q⟩;have f:=(ud x).after (S':=S2) (by rw[ud E2];exact n) l;have e0:w3.cell? (U j 0)=J (O d):=(by rw[xT f.head];rfl);have Q:=zd f.head;have y:=ze f;have r:=ze (jf (j:=j) l);have m:=ze q;have D:=HS _ _ f.disk;clear f n l q)
      |(go_at_call 127;refine(ud D).mono ?_;rintro e w4 ⟨rfl,u,p⟩;have i:=(ud y).after (S':=S3) (by rw[ud E3];exact u) p;have f0:w4.cell? (U j 0)=J (O d):=(by rw[xT i.head];rfl);have Y:=zd i.head;have F:=ze i;have z:=ze (jf (j:=j) p);have T:=HN _ _ i.disk;clear i u p))
     go_ret;exact⟨rfl,⟨G,ud F,(zB (zB (ud g) (ud b) (ud r)) (qw.trans (ud b) (ud g).size (ud m)) (ud z)),(qw.trans (ud b) (ud g).size (ud m))⟩⟩
   ·simp only[V]at E;go_enter func133,ntmps133;go_wp2_with(first
     |(go_at_call 205;refine(ud HH).mono ?_;rintro e w0 ⟨rfl,rfl⟩)
     |(go_at_call 206;refine(ud HR).mono ?_;rintro e w1 ⟨rfl,a4,B,s,C⟩;have a:=(ud H).after (S':=S1) (by rw[ud E5];exact B) s;have t:=ze (jf (j:=j) s);have b:=ze C;clear B s C;obtain⟨c,o⟩:=a.setStart ((rec.size:Int)+1);have d0:(w1.setCell (U j 1) (I ((rec.size:Int)+1))).cell? (U j 0)=J (O d):=(by rw[xT c.head];rfl);have d1:=JF a.head 1;have d2:w1.cell? (U j 1)=J (I st):=(by rw[xT a.head];rfl);have d3:w1.cell? (U j 0)=J (O d):=(by rw[xT a.head];rfl);have M:=zd a.head;have P:=zd c.head;have x:=ze c;have g:=ze (zB (ud t) (ud b) (o.mono (fun k _ e=> .inl e)));have v:=E _ _ c.disk;clear a c o E)
     |(go_at_call 126;refine(ud v).mono ?_;rintro e w3 ⟨rfl,G,n,l,q⟩;have f:=(ud x).after (S':=S2) (by rw[ud E2];exact n) l;have e0:w3.cell? (U j 0)=J (O d):=(by rw[xT f.head];rfl);have Q:=zd f.head;have y:=ze f;have r:=ze (jf (j:=j) l);have m:=ze q;have D:=HS _ _ f.disk;clear f n l q))
    go_ret;exact⟨rfl,⟨G,ud y,(zB (ud g) (ud b) (ud r)),(qw.trans (ud b) (ud g).size (ud m))⟩⟩
  ·simp only[aa]at HR;go_enter func133,ntmps133;go_wp2_with(first
    |(go_at_call 205;refine(ud HH).mono ?_;rintro e w0 ⟨rfl,rfl⟩)
    |(go_at_call 206;refine(ud HR).mono ?_;rintro e w1 ⟨rfl,a4,B,s,C⟩;have a:=(ud H).after (S':=S1) (by rw[ud E5];exact B) s;have t:=ze (jf (j:=j) s);have b:=ze C;clear B s C;have ab:=ze a;clear a))
   go_ret;exact⟨rfl,⟨a4,ud ab,ud t,ud b⟩⟩
def Vn(S:DS)(st:Int):Bool:=decide (2*st+4096<(yh S xY).size)
theorem zdz(h:DOk S N)(nm:ByteArray):(yh S nm).size<=N:=by
 unfold yh;cases b:xL S.files nm with
 |none=>exact K _
 |some i=>
  obtain⟨f,a,_,_⟩:=ku b;simp only[a];exact(h.2.2.2 f (List.mem_of_getElem? a)).2
theorem zlu(h:JAt w j d st S fs)(N:Nat)(k:N<=1099511627776)(a:DOk S N)(f:0<=st/\st<=1099511627776):
  Calls prog 110 #[(O j)] w (Rz w (.bool (Vn S st))):=by
 have HR:=fun W (l:Below w.1.size w W)=>ze (zak 0 d S fs xY W N k a.2.2.1 (h.disk.later l));have g:=zdz a xY;have p:w.cell? (U j 0)=J (O d):=by rw[xT h.head];rfl
 have q:w.cell? (U j 1)=J (I st):=by rw[xT h.head];rfl
 have m:=zd h.head;obtain⟨t,i⟩:∃t,yh S xY=t:=⟨_,rfl⟩;unfold Vn;rw[i]at g ⊢;simp only[i]at HR;unfold xY at HR;have b:=HR w (Below.refl _ _);have c:=HR w.drew (Below.refl _ _).drew;obtain⟨n,o⟩:=f;clear h a HR i;have r:IntKind.i64.wrap (2*st)=2*st:=by rw[IntKind.wrap_i64];omega
 have s:IntKind.i64.wrap (2*st+4096)=2*st+4096:=by rw[IntKind.wrap_i64];omega
 go_enter func110,ntmps110;go_wp2_with fail;go_region_held3 (fun w'=>w'.cell? (U j 0)=J (O d)/\w'.cell? (U j 1)=J (I st)) (go_keep) (first
  |(go_at_call 128;(first|(with_reducible refine(ud b).mono ?_)|(with_reducible refine(ud c).mono ?_));rintro e V ⟨rfl,rfl⟩))
 all_goals go_wp2_with fail
 all_goals go_ret
 all_goals exact⟨by simp,(Below.refl _ _).drew⟩
def Vq:ByteArray:=⟨#[43]⟩
def Zb(S:DS):DS:=if zj S then zD S qh Vq else xM (zD S qh Vq) qh
def YT(S:DS):Bool:=!zj S&&!zj (zD S qh Vq)
def zdY(S:DS):Int:=if YT S then(yh (xM (zD S qh Vq) qh) qh).size else 0
theorem zhw(h:Yt w d S fs)(N:Nat)(H:N+10<=1099511627776)(v:DOk S N):
  Calls prog 66 #[(O d)] w fun e w'=>e=.returned (.tuple #[I (zdY S),.bool (YT S)])/\∃a,Yt w' d (Zb S) a/\zi (foot d fs) w w'/\qw w fs a:=by
 have F:Vq.size=1:=rfl;have p:=ze (Qq 0 d S fs qh Vq w N (by omega) v (by omega) (K _) h);have m:DOk (zD S qh Vq) (N+1+1):=by have:=jv v qh Vq;rwa[F]at this
 have n:DOk (xM (zD S qh Vq) qh) (N+1+1+1):=Ys m _;have s:=fun W a (C:Yt W d (zD S qh Vq) a)=>ze (zay 0 d (zD S qh Vq) a qh W _ (by omega) m C);have HR:=fun W a (C:Yt W d (xM (zD S qh Vq) qh) a)=>ze (zak 0 d (xM (zD S qh Vq) qh) a qh W _ (by omega) n.2.2.1 C);have z:=zdz n qh;unfold zdY YT Zb;generalize zD S qh Vq=E at*;obtain⟨S2,o⟩:∃S2,xM E qh=S2:=⟨_,rfl⟩;have G:=ze o;rw[o]at z ⊢;simp only[o]at HR s;obtain⟨t,D⟩:∃t,yh S2 qh=t:=⟨_,rfl⟩;rw[D]at z ⊢;simp only[D]at HR;unfold qh Vq at p;unfold qh at HR s;clear v m n F D o;cases x:zj S
 ·cases y:zj E
  ·simp only[x]at p;simp only[y]at s;clear h;go_enter func66,ntmps66;go_wp2_with(first
    |(go_at_call 126;refine(ud p).mono ?_;rintro e w1 ⟨rfl,b,c,f,g⟩;have u:=s w1 b c;have k:=ze f;have i:=ze g;clear c f g)
    |(go_at_call 127;refine(ud u).mono ?_;rintro e w2 ⟨rfl,j,l⟩;have B:=HR w2 b j;have q:=ze j;have r:=ze l;clear j l)
    |(go_at_call 128;refine(ud B).mono ?_;rintro e L ⟨rfl,rfl⟩))
   go_ret2;exact⟨rfl,b,ud q,Qu (ud k) (ud i) (ud r),ud i⟩
  ·simp only[x]at p;simp only[y]at s;clear h HR;go_enter func66,ntmps66;go_wp2_with(first
    |(go_at_call 126;refine(ud p).mono ?_;rintro e w1 ⟨rfl,b,c,f,g⟩;have u:=s w1 b c;have k:=ze f;have i:=ze g;clear c f g)
    |(go_at_call 127;refine(ud u).mono ?_;rintro e w2 ⟨rfl,j,l⟩;have q:=ze j;have r:=ze l;clear j l))
   go_ret2;exact⟨rfl,b,ud q,Qu (ud k) (ud i) (ud r),ud i⟩
 ·simp only[x]at p;clear h HR s;go_enter func66,ntmps66;go_wp2_with(first
   |(go_at_call 126;refine(ud p).mono ?_;rintro e w1 ⟨rfl,b,c,f,g⟩;have A:=ze c;have k:=ze f;have i:=ze g;clear c f g))
  go_ret2;exact⟨rfl,b,ud A,ud k,ud i⟩
def JC(t:ByteArray):Nat:=(Lib.lastIndexByte t 10+1).toNat
theorem zhK(t:ByteArray):Lib.lastIndexByte t 10=(JC t:Int)-1/\JC t<=t.size:=by
 unfold JC Lib.lastIndexByte;rcases Lib.lastIdx_spec t 10 t.size with⟨h,-⟩|⟨i,a,h,-⟩
 ·rw[h];exact⟨rfl,K _⟩
 ·rw[h];constructor<;>omega
theorem zpQ(s:ByteArray)(a:s.size<=1099511627776)(w:World):Calls prog 132 #[.string s,.int .u8 10] w fun e w'=>e=.returned (I (Lib.lastIndexByte s 10))/\w'=w:=
 Any.strings_LastIndexByte Tryz.layLI s 10 (by omega) w
theorem ziz(s:ByteArray)(w:World):Calls prog 131 #[.string s] w fun e w'=>e=.returned (.func (.func 202) #[] #[(O w.1.size)])/\w'=w.alloc (.cells #[.string s] 9):=by
 go_enter func131,ntmps131;go_wp2_with fail;go_ret;exact⟨rfl,rfl⟩
theorem zdB(h:Yt w d S fs)(N:Nat)(g:N<=1099511627776)(a:DOk S N):
  Calls prog 72 #[(O d)] w fun e w'=>e=.returned (.func (.func 202) #[] #[(O w.1.size)])/\w'=w.alloc (.cells #[.string ((yh S xY).extract 0 (JC (yh S xY)))] 9):=by
 have HR:=ze (zak 0 d S fs xY w N g a.2.2.1 h);have i:=zdz a xY;generalize yh S xY=t at*;obtain⟨c,k⟩:=zhK t;have b:=ze (zpQ t (by omega) w);rw[c]at b;generalize JC t=n at*;have f:=ze (ziz (t.extract 0 n) w);unfold xY at HR;clear h a c;have j:((n:Int)-1+1)=n:=by omega
 go_enter func72,ntmps72;go_wp2_with(first
  |(go_at_call 128;refine(ud HR).mono ?_;rintro e w1 ⟨rfl,rfl⟩)
  |(go_at_call 132;refine(ud b).mono ?_;rintro e w2 ⟨rfl,rfl⟩)
  |(go_at_call 131;refine(ud f).mono ?_;rintro e l ⟨rfl,rfl⟩))
 go_ret;exact⟨rfl,rfl⟩
def xC(e:Nat):ByteArray:=⟨Array.replicate e 43⟩
theorem jG(e:Nat):(xC e).size=e:=by simp[xC,ByteArray.size]
theorem zge(e:Nat):xC e++Vq=xC (e+1):=by
 apply ByteArray.ext;rw[ByteArray.data_append];simp only[xC,Vq];rw[Array.replicate_succ];rfl
def jS(e:Nat)(txt:ByteArray):DS:=⟨[⟨qh,xC e,e⟩,⟨xY,txt,txt.size⟩],-1,false⟩
def jS0(e:Nat):DS:=⟨[⟨qh,xC e,e⟩],-1,false⟩
theorem bl(a:Array UInt8):(⟨a⟩:ByteArray).toList=a.toList:=by rw[ByteArray.toList_eq]
theorem jQ(a:ByteArray):eqS a a=true:=by simp[eqS]
theorem zhS:eqS qh xY=false:=by simp[eqS,qh,xY,bl]
theorem zbh:eqS qh yc=false:=by simp[eqS,qh,yc,bl]
theorem znW:eqS xY yc=false:=by simp[eqS,xY,yc,bl]
theorem znV:eqS yc xY=false:=by simp[eqS,xY,yc,bl]
theorem qZ(h:S.left= -1)(a:S.down=false):zj S=false/\zm S=S:=by
 have b:zj S=false:=by unfold zj;rw[h,a];rfl
 refine⟨b,?_⟩;obtain⟨f,l,d⟩:=S;dsimp only at h a;subst h a;unfold zm;rw[b];rfl
theorem kJ(e:Nat)(txt:ByteArray)(k:Nat)(r:List FS):xL (⟨qh,xC e,e⟩::⟨xY,txt,k⟩::r) xY=J 1:=by
 unfold xL xo xo;rw[zhS,jQ];rfl
theorem XC(e:Nat)(txt:ByteArray)(k:Nat):xL [⟨qh,xC e,e⟩,⟨xY,txt,k⟩] yc=none:=by
 unfold xL xo xo xo;rw[zbh,znW];rfl
theorem ZA(e:Nat)(txt t2:ByteArray)(k k2:Nat):xL [⟨qh,xC e,e⟩,⟨xY,txt,k⟩,⟨yc,t2,k2⟩] yc=J 2:=by
 unfold xL xo xo xo;rw[zbh,znW,jQ];rfl
theorem zbN(e:Nat):xL [⟨qh,xC e,e⟩] yc=none:=by
 unfold xL xo xo;rw[zbh];rfl
theorem zbO(e:Nat):xL [⟨qh,xC e,e⟩] xY=none:=by
 unfold xL xo xo;rw[zhS];rfl
theorem Jc(e:Nat)(t2:ByteArray)(k2:Nat):xL [⟨qh,xC e,e⟩,⟨yc,t2,k2⟩] yc=J 1:=by
 unfold xL xo xo;rw[zbh,jQ];rfl
theorem zoG(e:Nat)(txt:ByteArray):yh (jS e txt) xY=txt:=by unfold yh jS;rw[kJ];rfl
theorem zlO(e:Nat):yh (jS0 e) xY=⟨#[]⟩:=by unfold yh jS0;rw[zbO]
theorem zmG{e:Nat}{txt:ByteArray}(b:e<=N)(c:txt.size<=N)(d:2<=N):DOk (jS e txt) N:=by
 refine⟨by show(-1:Int)<= -1;omega,by show(-1:Int)<=9223372036854775807;omega,d,fun f a=>?_⟩;simp only[jS,List.mem_cons,List.not_mem_nil,or_false]at a;rcases a with rfl|rfl
 ·rw[jG];exact⟨Nat.le_refl _,b⟩
 ·exact⟨Nat.le_refl _,c⟩
theorem zmU(e:Nat)(txt rec:ByteArray):Qa (jS e txt) rec=jS e (txt++(rec++nl))/\yR (jS e txt) rec=true:=by
 obtain⟨b,d⟩:=qZ (S:=jS e txt) rfl rfl;have g:zD (jS e txt) xY (rec++nl)=⟨[⟨qh,xC e,e⟩,⟨xY,txt++(rec++nl),txt.size⟩],-1,false⟩:=by
  rw[qP (i:=1) (f:=⟨xY,txt,txt.size⟩) b (kJ e txt txt.size []) rfl,d];rfl
 obtain⟨a,c⟩:=qZ (S:=⟨[⟨qh,xC e,e⟩,⟨xY,txt++(rec++nl),txt.size⟩],-1,false⟩) rfl rfl;unfold Qa yR;rw[b,g,a];refine⟨?_,rfl⟩;simp only[Bool.false_eq_true,if_false];rw[xX (i:=1) (f:=⟨xY,txt++(rec++nl),txt.size⟩) a (kJ e (txt++(rec++nl)) txt.size []) rfl,c];rfl
theorem zjo(e:Nat)(txt rec:ByteArray):Xj (jS e txt) rec=jS e (rec++nl)/\QJ (jS e txt) rec=true/\zce (jS e txt)=false:=by
 have a:xL (jS e txt).files yc=none:=XC e txt txt.size;have m:zce (jS e txt)=false:=by unfold zce;rw[a];rfl
 have d:YD (jS e txt)=jS e txt:=by unfold YD;rw[a];rfl
 obtain⟨a1,a2⟩:=qZ (S:=jS e txt) rfl rfl;have g:Jg (jS e txt) rec=⟨[⟨qh,xC e,e⟩,⟨xY,txt,txt.size⟩,⟨yc,rec++nl,0⟩],-1,false⟩:=by
  unfold Jg;rw[d,qD a1 a,a2];rfl
 obtain⟨b,j⟩:=qZ (S:=⟨[⟨qh,xC e,e⟩,⟨xY,txt,txt.size⟩,⟨yc,rec++nl,0⟩],-1,false⟩) rfl rfl;have h:zao (jS e txt) rec=⟨[⟨qh,xC e,e⟩,⟨xY,txt,txt.size⟩,⟨yc,rec++nl,(rec++nl).size⟩],-1,false⟩:=by
  unfold zao;rw[g,xX (i:=2) (f:=⟨yc,rec++nl,0⟩) b (ZA e txt _ _ _) rfl,j];rfl
 obtain⟨c,k⟩:=qZ (S:=⟨[⟨qh,xC e,e⟩,⟨xY,txt,txt.size⟩,⟨yc,rec++nl,(rec++nl).size⟩],-1,false⟩) rfl rfl;have l:zgR (jS e txt) rec=jS e (rec++nl):=by
  unfold zgR;rw[h,kB (i:=2) (f:=⟨yc,rec++nl,(rec++nl).size⟩) c (ZA e txt _ _ _) rfl znV,k];simp[yX,zhS,zbh,jQ,jS]
 unfold Xj QJ;rw[m,d,g,h,a1,b,c,l];exact⟨rfl,rfl,rfl⟩
theorem zjp(e:Nat)(rec:ByteArray):Xj (jS0 e) rec=jS e (rec++nl)/\QJ (jS0 e) rec=true/\zce (jS0 e)=false:=by
 have a:xL (jS0 e).files yc=none:=zbN e;have m:zce (jS0 e)=false:=by unfold zce;rw[a];rfl
 have d:YD (jS0 e)=jS0 e:=by unfold YD;rw[a];rfl
 obtain⟨a1,a2⟩:=qZ (S:=jS0 e) rfl rfl;have g:Jg (jS0 e) rec=⟨[⟨qh,xC e,e⟩,⟨yc,rec++nl,0⟩],-1,false⟩:=by
  unfold Jg;rw[d,qD a1 a,a2];rfl
 obtain⟨b,j⟩:=qZ (S:=⟨[⟨qh,xC e,e⟩,⟨yc,rec++nl,0⟩],-1,false⟩) rfl rfl;have h:zao (jS0 e) rec=⟨[⟨qh,xC e,e⟩,⟨yc,rec++nl,(rec++nl).size⟩],-1,false⟩:=by
  unfold zao;rw[g,xX (i:=1) (f:=⟨yc,rec++nl,0⟩) b (Jc e _ _) rfl,j];rfl
 obtain⟨c,k⟩:=qZ (S:=⟨[⟨qh,xC e,e⟩,⟨yc,rec++nl,(rec++nl).size⟩],-1,false⟩) rfl rfl;have l:zgR (jS0 e) rec=jS e (rec++nl):=by
  unfold zgR;rw[h,kB (i:=1) (f:=⟨yc,rec++nl,(rec++nl).size⟩) c (Jc e _ _) rfl znV,k];simp[yX,zhS,zbh,jQ,jS]
 unfold Xj QJ;rw[m,d,g,h,a1,b,c,l];exact⟨rfl,rfl,rfl⟩
theorem znB:Zb Yp=jS0 1/\YT Yp=true/\zdY Yp=1:=by
 obtain⟨a1,a2⟩:=qZ (S:=Yp) rfl rfl;have a:zD Yp qh Vq=⟨[⟨qh,xC 1,0⟩],-1,false⟩:=by
  rw[qD a1 rfl,a2];rfl
 obtain⟨b,g⟩:=qZ (S:=⟨[⟨qh,xC 1,0⟩],-1,false⟩) rfl rfl;have e:∀k,xL [⟨qh,xC 1,k⟩] qh=J 0:=fun k=>by unfold xL xo;rw[jQ];rfl
 have c:xM ⟨[⟨qh,xC 1,0⟩],-1,false⟩ qh=jS0 1:=by
  rw[xX (i:=0) (f:=⟨qh,xC 1,0⟩) b (e 0) rfl,g];rfl
 have d:YT Yp=true:=by unfold YT;rw[a,a1,b];rfl
 refine⟨by unfold Zb;rw[a1,a,c];rfl,d,?_⟩;unfold zdY;rw[d,a,c];unfold yh jS0;rw[e 1];rfl
end Go.Proofs.YtndhpgciopcncaaGreatDoor
