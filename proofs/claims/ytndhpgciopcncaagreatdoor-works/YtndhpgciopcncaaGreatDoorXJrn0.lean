import Derived.Test.YtndhpgciopcncaaGreatDoorXDisk0
import Derived.Test.YtndhpgciopcncaaGreatDoorXLay2
open Option renaming some → J
open Nat renaming zero_le → K
set_option linter.unusedVariables false
set_option maxRecDepth 8000
set_option maxHeartbeats 8000000
open Go.Proofs.Tryz
namespace Go.Proofs.YtndhpgciopcncaaGreatDoor
open Go.RowKit Go.Shelf
variable {S:DS} {st:Int} {N N' d j:Nat} {a b fs:Value} {w w' w1 w2:World}
theorem vo(h:DOk S N)(a:N<=N'):DOk S N':=⟨h.1,h.2.1,Nat.le_trans h.2.2.1 a,fun f b=>⟨(h.2.2.2 f b).1,Nat.le_trans (h.2.2.2 f b).2 a⟩⟩
theorem vH(h:DOk S N):DOk (zr S) N:=by
 obtain⟨c,d,a,b⟩:=h;unfold zr;split
 ·exact⟨c,d,a,b⟩
 ·refine⟨?_,?_,a,b⟩<;>(dsimp only;split<;>omega)
theorem XO(h:DOk S N)(l:List FS)(b:l.length<=N')(a:∀f∈l,f.safe<=f.data.size/\f.data.size<=N'):DOk {S with files:=l} N':=⟨h.1,h.2.1,b,a⟩
theorem Ja{l:List FS}{i:Nat}{x f:FS}(h:f∈l.set i x):f=x\/f∈l:=by
 rcases List.mem_or_eq_of_mem_set h with h|h
 ·exact .inr h
 ·exact .inl h
theorem jA(h:DOk S N)(n s:ByteArray):DOk (zS S n s) (N+s.size+1):=by
 cases d:zt S
 ·have b:=vH h;cases c:xS S.files n with
  |none=>
   rw[qQ d c];refine XO b _ (by simp;have:=b.2.2.1;omega) (fun f a=>?_);rcases List.mem_append.1 a with a|a
   ·have:=b.2.2.2 f a;omega
   ·simp at a;subst a;exact⟨K _,by dsimp only;omega⟩
  |some i=>
   obtain⟨g,e,_,_⟩:=kF c;rw[vd d c e];refine XO b _ (by simp;have:=b.2.2.1;omega) (fun f a=>?_);have j:=b.2.2.2 g (List.mem_of_getElem? (by rw[zy];exact e));rcases Ja a with rfl|a
   ·dsimp only;rw[ByteArray.size_append];omega
   ·have:=b.2.2.2 f a;omega
 ·rw[vJ d];exact vo (vH h) (by omega)
theorem YI(h:DOk S N)(n:ByteArray):DOk (xN S n) (N+1):=by
 cases b:zt S
 ·have c:=vH h;cases a:xS S.files n with
  |none=>rw[Xb b a];exact vo c (by omega)
  |some i=>
   obtain⟨g,d,_,_⟩:=kF a;rw[qX b a d];refine XO c _ (by simp;have:=c.2.2.1;omega) (fun f e=>?_);have j:=c.2.2.2 g (List.mem_of_getElem? (by rw[zy];exact d));rcases Ja e with rfl|e
   ·dsimp only;omega
   ·have:=c.2.2.2 f e;omega
 ·rw[jD b];exact vo (vH h) (by omega)
theorem zfn(h:DOk S N)(n:ByteArray):DOk (qO S n) (N+1):=by
 have a:=vH h;unfold qO;split
 ·exact vo a (by omega)
 ·refine XO a _ (by have:=List.length_filter_le (fun f:FS=>!eqS f.name n) (zr S).files;have:=a.2.2.1;unfold XN;omega) (fun f b=>?_);have:=a.2.2.2 f ((List.mem_filter.1 b).1);omega
def kh:ByteArray:=⟨#[114,101,99,111,114,100,115]⟩
def vA:ByteArray:=⟨#[114,101,99,111,114,100,115,46,110,101,119]⟩
def kj:ByteArray:=⟨#[111,112,101,110,105,110,103,115]⟩
def nl:ByteArray:=⟨#[10]⟩
abbrev zhi(w:World)(d:Nat)(S:DS)(fs:Value):Prop:=zM 111 113 0 w d S fs
def qA(w:World)(fs a:Value):Prop:=∀k,a.ownBlock=J k->fs.ownBlock=J k\/w.1.size<=k
theorem qA.refl(w:World)(fs:Value):qA w fs fs:=fun _ h=> .inl h
theorem qA.trans{c:Value}(h:qA w a b)(f:w.1.size<=w1.1.size)(k:qA w1 b c):qA w a c:=fun i e=>by
 rcases k i e with d|d
 ·exact h i d
 ·exact .inr (Nat.le_trans f d)
theorem QK(c:zj (foot d a) w w1)(hn:qA w a b)(f:zj (foot d b) w1 w2):zj (foot d a) w w2:=c.trans f (fun k g e=>by
 rcases e with e|e
 ·exact .inl e
 ·rcases hn k e with h|h
  ·exact .inr h
  ·omega)
structure JAt(w:World)(j d:Nat)(st:Int)(S:DS)(fs:Value):Prop where
 head:w.1[j]?=J (.cells #[(O d),I st] 216 (0,0))
 disk:zhi w d S fs
theorem JAt.apart(h:JAt w j d st S fs):¬foot d fs j:=fun e=>by
 have a:=h.head;rcases e with e|e
 ·rw[e,h.disk.head]at a;injection a with a;injection a with f b;exact absurd b (by decide)
 ·obtain⟨c,g⟩:=zG h.disk.row e;rw[g]at a;injection a with a;injection a with f b;exact absurd b (by decide)
theorem JAt.after{S':DS}{a:Value}(h:JAt w j d st S fs)(b:zhi w' d S' a)(c:zj (foot d fs) w w'):JAt w' j d st S' a:=⟨c.heap h.head h.apart,b⟩
def zcF(S:DS)(a:ByteArray):DS:=if zt S then zS S kh (a++nl)else xN (zS S kh (a++nl)) kh
def Zh(S:DS)(a:ByteArray):Bool:=!zt S&&!zt (zS S kh (a++nl))
theorem KM(r:ByteArray):(r++nl).size=r.size+1:=by rw[ByteArray.size_append];rfl
theorem znP(h:JAt w j d st S fs)(a:ByteArray)(N:Nat)(B:N+a.size+2<=1099511627776)(n:DOk S N):
  Calls prog 107 #[(O j),.string a] w fun e w'=>e=.returned (.bool (Zh S a))/\∃g,JAt w' j d st (zcF S a) g/\zj (foot d fs) w w'/\qA w fs g:=by
 have A:=KM a;have q:=ze (QC 0 d S fs kh (a++nl) w N (by omega) n (by omega) (K _) h.disk);have c:=jA n kh (a++nl);rw[A]at c;have x:=fun W g (D:zhi W d (zS S kh (a++nl)) g)=>ze (zaN 0 d (zS S kh (a++nl)) g kh W _ (by omega) c D);have I:w.cell? (U j 0)=J (O d):=by rw[qv h.head];rfl
 have E:=zd h.head;have H:=ze h;have F:a.size<=1099511627776:=by omega
 unfold zcF Zh;generalize s:zS S kh (a++nl)=G at*;unfold kh nl at q;unfold kh at x;cases v:zt S
 ·rw[v]at q;clear h n c A B s;go_in;go_wp2_with(first
   |(go_at_call 126;refine q.mono ?_;rintro e w1 ⟨rfl,l,f,b,i⟩;have m:=H.after f b;have L:w1.cell? (U j 0)=J (O d):=(by rw[qv m.head];rfl);have C:=zd m.head;have z:=x w1 l f;have o:=ze m;have p:=ze b;have k:=ze i;clear m f b i x)
   |(go_at_call 127;refine z.mono ?_;rintro e w2 ⟨rfl,t,u⟩;have y:=ze t;have r:=ze u;clear t u))
  go_ret;exact⟨by simp,l,(ud o).after (ud y) (ud r),QK (ud p) (ud k) (ud r),ud k⟩
 ·rw[v]at q;clear h n c A B s x;go_in;go_wp2_with(go_at_call 126;refine q.mono ?_;rintro e w1 ⟨rfl,l,f,b,i⟩;have o:=ze (H.after f b);have p:=ze b;have k:=ze i;clear f b i);go_ret;exact⟨by simp,l,ud o,ud p,ud k⟩
def zkI(S:DS):Bool:=(xS S.files vA).isSome&&zt S
def zaW(S:DS):DS:=if(xS S.files vA).isSome then qO S vA else S
def zeQ(S:DS)(a:ByteArray):DS:=zS (zaW S) vA (a++nl)
def zgO(S:DS)(a:ByteArray):DS:=xN (zeQ S a) vA
def zom(S:DS)(a:ByteArray):DS:=qo (zgO S a) vA kh
def zgP(S:DS)(a:ByteArray):DS:=if zkI S then zaW S else if zt (zaW S)then zeQ S a else if zt (zeQ S a)then zgO S a else zom S a
def VE(S:DS)(a:ByteArray):Bool:=!zkI S&&!zt (zaW S)&&!zt (zeQ S a)&&!zt (zgO S a)
def zeR(S:DS)(a:ByteArray)(st:Int):Int:=if zkI S then st else a.size+1
theorem zkM(h:DOk S N):DOk (zaW S) (N+1):=by
 unfold zaW;split
 ·exact zfn h _
 ·exact vo h (by omega)
theorem JAt.setStart(h:JAt w j d st S fs)(n:Int):JAt (w.setCell (U j 1) (I n)) j d n S fs/\zj (fun k=>k=j) w (w.setCell (U j 1) (I n)):=by
 have a:zj (fun k=>k=j) w (w.setCell (U j 1) (I n)):=zj.setCell (f:=fun k=>k=j) (zj.refl _ _) (p:=(U j 1)) (fun _=>rfl) _;exact⟨⟨zpU h.head _,h.disk.kept a (fun k b e=>by subst e;exact h.apart b)⟩,a⟩
def Zg(j d:Nat)(fs:Value)(k:Nat):Prop:=k=j\/foot d fs k
theorem zK(c:zj (Zg j d a) w w1)(hn:qA w a b)(f:zj (Zg j d b) w1 w2):zj (Zg j d a) w w2:=c.trans f (fun k g e=>by
 rcases e with e|e|e
 ·exact .inl e
 ·exact .inr (.inl e)
 ·rcases hn k e with h|h
  ·exact .inr (.inr h)
  ·omega)
theorem jf(h:zj (foot d fs) w w'):zj (Zg j d fs) w w':=h.mono (fun k _ e=> .inr e)
def JEnd(w w':World)(j d:Nat)(fs:Value)(b:Int)(S':DS):Prop:=∃a,JAt w' j d b S' a/\zj (Zg j d fs) w w'/\qA w fs a
theorem zjB(h:JAt w j d st S fs)(i:ByteArray)(N:Nat)(hN:N+i.size+10<=1099511627776)(a9:DOk S N):
  Calls prog 133 #[(O j),.string i] w fun e w'=>e=.returned (.bool (VE S i))/\JEnd w w' j d fs (zeR S i st) (zgP S i):=by
 have hr:=KM i;have a6:=zkM a9;have a7:DOk (zeQ S i) (N+1+(i.size+1)+1):=by rw[<-hr];exact jA a6 _ _
 have aa:DOk (zgO S i) (N+1+(i.size+1)+1+1):=YI a7 _;have ae:i.size<=1099511627776:=by omega
 have HH:=ze (znF 0 d S fs vA w N (by omega) a9.2.2.1 h.disk);have HR:=ze (zgK 0 d S fs vA w N (by omega) a9 (K _) h.disk);have F:=fun W Y (hd:zhi W d (zaW S) Y)=>ze (QC 0 d (zaW S) Y vA (i++nl) W _ (by omega) a6 (by omega) (K _) hd);have HS:=fun W Y (hd:zhi W d (zeQ S i) Y)=>ze (zaN 0 d (zeQ S i) Y vA W _ (by omega) a7 hd);have HN:=fun W Y (hd:zhi W d (zgO S i) Y)=>ze (zgL 0 d (zgO S i) Y vA kh W _ (by omega) aa (K _) hd);have E2:Hid (zeQ S i=zS (zaW S) vA (i++nl)):=rfl;have E3:Hid (zgO S i=xN (zeQ S i) vA):=rfl;have E4:Hid (zom S i=qo (zgO S i) vA kh):=rfl;have E1:Hid ((xS S.files vA).isSome=true->zaW S=qO S vA):=fun e=>by unfold zaW;rw[if_pos e]
 have E0:Hid ((xS S.files vA).isSome=false->zaW S=S):=fun e=>by unfold zaW;rw[if_neg (by simp[e])]
 unfold VE zgP zeR zkI;have c0:w.cell? (U j 0)=J (O d):=by rw[qv h.head];rfl
 have ad:=zd h.head;have H:=ze h;generalize(xS S.files vA).isSome=hp at*;generalize zaW S=S1 at*;generalize zeQ S i=S2 at*;generalize zgO S i=S3 at*;generalize zom S i=S4 at*;unfold vA at HH HR;unfold vA nl at F;unfold vA at HS;unfold vA kh at HN;clear h a9 a6 a7 aa hr hN;cases hp
 ·clear HR E1;cases X:zt S1
  ·cases a4:zt S2
   ·cases a8:zt S3
    ·simp only[X]at F;simp only[a4]at HS;simp only[a8]at HN;have a:JAt w j d st S1 fs:=(by rw[ud E0 rfl];exact ud H);have u:Hid (zj (Zg j d fs) w w):=zj.refl _ _;have b:Hid (qA w fs fs):=qA.refl _ _;obtain⟨c,p⟩:=a.setStart ((i.size:Int)+1);have d0:(w.setCell (U j 1) (I ((i.size:Int)+1))).cell? (U j 0)=J (O d):=(by rw[qv c.head];rfl);have d1:=JN a.head 1;have d2:w.cell? (U j 1)=J (I st):=(by rw[qv a.head];rfl);have d3:w.cell? (U j 0)=J (O d):=(by rw[qv a.head];rfl);have P:=zd a.head;have Q:=zd c.head;have y:=ze c;have g:=ze (zK u b (p.mono (fun k _ e=> .inl e)));have x:=F _ _ c.disk;clear a c p F;go_in;go_wp2_with(first
      |(go_at_call 205;refine HH.mono ?_;rintro e w0 ⟨rfl,rfl⟩)
      |(go_at_call 126;refine x.mono ?_;rintro e w3 ⟨rfl,L,o,m,r⟩;have f:=(ud y).after (S':=S2) (by rw[ud E2];exact o) m;have e0:w3.cell? (U j 0)=J (O d):=(by rw[qv f.head];rfl);have R:=zd f.head;have z:=ze f;have s:=ze (jf (j:=j) m);have n:=ze r;have E:=HS _ _ f.disk;clear f o m r)
      |(go_at_call 127;refine E.mono ?_;rintro e w4 ⟨rfl,v,q⟩;have l:=(ud z).after (S':=S3) (by rw[ud E3];exact v) q;have f0:w4.cell? (U j 0)=J (O d):=(by rw[qv l.head];rfl);have Z:=zd l.head;have G:=ze l;have A:=ze (jf (j:=j) q);have V:=HN _ _ l.disk;clear l v q)
      |(go_at_call 207;refine V.mono ?_;rintro e w5 ⟨rfl,a3,M,B,T⟩;have a0:=ze ((ud G).after (S':=S4) (by rw[ud E4];exact M) B);have a1:=ze (jf (j:=j) B);have a2:=ze T;clear M B T))
     go_ret;exact⟨rfl,⟨a3,a0,zK (zK (zK g b s) (qA.trans b g.size n) A) (qA.trans b g.size n) a1,qA.trans (qA.trans b g.size n) ((zK (zK g b s) (qA.trans b g.size n) A)).size a2⟩⟩
    ·simp only[X]at F;simp only[a4]at HS;simp only[a8]at HN;have a:JAt w j d st S1 fs:=(by rw[ud E0 rfl];exact ud H);have u:Hid (zj (Zg j d fs) w w):=zj.refl _ _;have b:Hid (qA w fs fs):=qA.refl _ _;obtain⟨c,p⟩:=a.setStart ((i.size:Int)+1);have d0:(w.setCell (U j 1) (I ((i.size:Int)+1))).cell? (U j 0)=J (O d):=(by rw[qv c.head];rfl);have d1:=JN a.head 1;have d2:w.cell? (U j 1)=J (I st):=(by rw[qv a.head];rfl);have d3:w.cell? (U j 0)=J (O d):=(by rw[qv a.head];rfl);have P:=zd a.head;have Q:=zd c.head;have y:=ze c;have g:=ze (zK u b (p.mono (fun k _ e=> .inl e)));have x:=F _ _ c.disk;clear a c p F;go_in;go_wp2_with(first
      |(go_at_call 205;refine HH.mono ?_;rintro e w0 ⟨rfl,rfl⟩)
      |(go_at_call 126;refine x.mono ?_;rintro e w3 ⟨rfl,L,o,m,r⟩;have f:=(ud y).after (S':=S2) (by rw[ud E2];exact o) m;have e0:w3.cell? (U j 0)=J (O d):=(by rw[qv f.head];rfl);have R:=zd f.head;have z:=ze f;have s:=ze (jf (j:=j) m);have n:=ze r;have E:=HS _ _ f.disk;clear f o m r)
      |(go_at_call 127;refine E.mono ?_;rintro e w4 ⟨rfl,v,q⟩;have l:=(ud z).after (S':=S3) (by rw[ud E3];exact v) q;have f0:w4.cell? (U j 0)=J (O d):=(by rw[qv l.head];rfl);have Z:=zd l.head;have G:=ze l;have A:=ze (jf (j:=j) q);have V:=HN _ _ l.disk;clear l v q)
      |(go_at_call 207;refine V.mono ?_;rintro e w5 ⟨rfl,a3,M,B,T⟩;have a0:=ze ((ud G).after (S':=S4) (by rw[ud E4];exact M) B);have a1:=ze (jf (j:=j) B);have a2:=ze T;clear M B T))
     go_ret;exact⟨rfl,⟨a3,a0,zK (zK (zK g b s) (qA.trans b g.size n) A) (qA.trans b g.size n) a1,qA.trans (qA.trans b g.size n) ((zK (zK g b s) (qA.trans b g.size n) A)).size a2⟩⟩
   ·simp only[X]at F;simp only[a4]at HS;have a:JAt w j d st S1 fs:=(by rw[ud E0 rfl];exact ud H);have u:Hid (zj (Zg j d fs) w w):=zj.refl _ _;have b:Hid (qA w fs fs):=qA.refl _ _;obtain⟨c,p⟩:=a.setStart ((i.size:Int)+1);have d0:(w.setCell (U j 1) (I ((i.size:Int)+1))).cell? (U j 0)=J (O d):=(by rw[qv c.head];rfl);have d1:=JN a.head 1;have d2:w.cell? (U j 1)=J (I st):=(by rw[qv a.head];rfl);have d3:w.cell? (U j 0)=J (O d):=(by rw[qv a.head];rfl);have P:=zd a.head;have Q:=zd c.head;have y:=ze c;have g:=ze (zK u b (p.mono (fun k _ e=> .inl e)));have x:=F _ _ c.disk;clear a c p F;go_in;go_wp2_with(first
     |(go_at_call 205;refine HH.mono ?_;rintro e w0 ⟨rfl,rfl⟩)
     |(go_at_call 126;refine x.mono ?_;rintro e w3 ⟨rfl,L,o,m,r⟩;have f:=(ud y).after (S':=S2) (by rw[ud E2];exact o) m;have e0:w3.cell? (U j 0)=J (O d):=(by rw[qv f.head];rfl);have R:=zd f.head;have z:=ze f;have s:=ze (jf (j:=j) m);have n:=ze r;have E:=HS _ _ f.disk;clear f o m r)
     |(go_at_call 127;refine E.mono ?_;rintro e w4 ⟨rfl,v,q⟩;have l:=(ud z).after (S':=S3) (by rw[ud E3];exact v) q;have f0:w4.cell? (U j 0)=J (O d):=(by rw[qv l.head];rfl);have Z:=zd l.head;have G:=ze l;have A:=ze (jf (j:=j) q);have V:=HN _ _ l.disk;clear l v q))
    go_ret;exact⟨rfl,⟨L,G,(zK (zK g b s) (qA.trans b g.size n) A),(qA.trans b g.size n)⟩⟩
  ·simp only[X]at F;have a:JAt w j d st S1 fs:=(by rw[ud E0 rfl];exact ud H);have u:Hid (zj (Zg j d fs) w w):=zj.refl _ _;have b:Hid (qA w fs fs):=qA.refl _ _;obtain⟨c,p⟩:=a.setStart ((i.size:Int)+1);have d0:(w.setCell (U j 1) (I ((i.size:Int)+1))).cell? (U j 0)=J (O d):=(by rw[qv c.head];rfl);have d1:=JN a.head 1;have d2:w.cell? (U j 1)=J (I st):=(by rw[qv a.head];rfl);have d3:w.cell? (U j 0)=J (O d):=(by rw[qv a.head];rfl);have P:=zd a.head;have Q:=zd c.head;have y:=ze c;have g:=ze (zK u b (p.mono (fun k _ e=> .inl e)));have x:=F _ _ c.disk;clear a c p F;go_in;go_wp2_with(first
    |(go_at_call 205;refine HH.mono ?_;rintro e w0 ⟨rfl,rfl⟩)
    |(go_at_call 126;refine x.mono ?_;rintro e w3 ⟨rfl,L,o,m,r⟩;have f:=(ud y).after (S':=S2) (by rw[ud E2];exact o) m;have e0:w3.cell? (U j 0)=J (O d):=(by rw[qv f.head];rfl);have R:=zd f.head;have z:=ze f;have s:=ze (jf (j:=j) m);have n:=ze r;have E:=HS _ _ f.disk;clear f o m r))
   go_ret;exact⟨rfl,⟨L,z,(zK g b s),(qA.trans b g.size n)⟩⟩
 ·clear E0;have E5:=ze (ud E1 rfl);clear E1;cases ab:zt S
  ·simp only[ab]at HR;cases X:zt S1
   ·cases a4:zt S2
    ·cases a8:zt S3
     ·simp only[X]at F;simp only[a4]at HS;simp only[a8]at HN;go_in;go_wp2_with(first
       |(go_at_call 205;refine HH.mono ?_;rintro e w0 ⟨rfl,rfl⟩)
       |(go_at_call 206;refine HR.mono ?_;rintro e w1 ⟨rfl,a5,C,t,D⟩;have a:=(ud H).after (S':=S1) (by rw[ud E5];exact C) t;have u:=ze (jf (j:=j) t);have b:=ze D;clear C t D;obtain⟨c,p⟩:=a.setStart ((i.size:Int)+1);have d0:(w1.setCell (U j 1) (I ((i.size:Int)+1))).cell? (U j 0)=J (O d):=(by rw[qv c.head];rfl);have d1:=JN a.head 1;have d2:w1.cell? (U j 1)=J (I st):=(by rw[qv a.head];rfl);have d3:w1.cell? (U j 0)=J (O d):=(by rw[qv a.head];rfl);have P:=zd a.head;have Q:=zd c.head;have y:=ze c;have g:=ze (zK u b (p.mono (fun k _ e=> .inl e)));have x:=F _ _ c.disk;clear a c p F)
       |(go_at_call 126;refine x.mono ?_;rintro e w3 ⟨rfl,L,o,m,r⟩;have f:=(ud y).after (S':=S2) (by rw[ud E2];exact o) m;have e0:w3.cell? (U j 0)=J (O d):=(by rw[qv f.head];rfl);have R:=zd f.head;have z:=ze f;have s:=ze (jf (j:=j) m);have n:=ze r;have E:=HS _ _ f.disk;clear f o m r)
       |(go_at_call 127;refine E.mono ?_;rintro e w4 ⟨rfl,v,q⟩;have l:=(ud z).after (S':=S3) (by rw[ud E3];exact v) q;have f0:w4.cell? (U j 0)=J (O d):=(by rw[qv l.head];rfl);have Z:=zd l.head;have G:=ze l;have A:=ze (jf (j:=j) q);have V:=HN _ _ l.disk;clear l v q)
       |(go_at_call 207;refine V.mono ?_;rintro e w5 ⟨rfl,a3,M,B,T⟩;have a0:=ze ((ud G).after (S':=S4) (by rw[ud E4];exact M) B);have a1:=ze (jf (j:=j) B);have a2:=ze T;clear M B T))
      go_ret;exact⟨rfl,⟨a3,a0,zK (zK (zK g b s) (qA.trans b g.size n) A) (qA.trans b g.size n) a1,qA.trans (qA.trans b g.size n) ((zK (zK g b s) (qA.trans b g.size n) A)).size a2⟩⟩
     ·simp only[X]at F;simp only[a4]at HS;simp only[a8]at HN;go_in;go_wp2_with(first
       |(go_at_call 205;refine HH.mono ?_;rintro e w0 ⟨rfl,rfl⟩)
       |(go_at_call 206;refine HR.mono ?_;rintro e w1 ⟨rfl,a5,C,t,D⟩;have a:=(ud H).after (S':=S1) (by rw[ud E5];exact C) t;have u:=ze (jf (j:=j) t);have b:=ze D;clear C t D;obtain⟨c,p⟩:=a.setStart ((i.size:Int)+1);have d0:(w1.setCell (U j 1) (I ((i.size:Int)+1))).cell? (U j 0)=J (O d):=(by rw[qv c.head];rfl);have d1:=JN a.head 1;have d2:w1.cell? (U j 1)=J (I st):=(by rw[qv a.head];rfl);have d3:w1.cell? (U j 0)=J (O d):=(by rw[qv a.head];rfl);have P:=zd a.head;have Q:=zd c.head;have y:=ze c;have g:=ze (zK u b (p.mono (fun k _ e=> .inl e)));have x:=F _ _ c.disk;clear a c p F)
       |(go_at_call 126;refine x.mono ?_;rintro e w3 ⟨rfl,L,o,m,r⟩;have f:=(ud y).after (S':=S2) (by rw[ud E2];exact o) m;have e0:w3.cell? (U j 0)=J (O d):=(by rw[qv f.head];rfl);have R:=zd f.head;have z:=ze f;have s:=ze (jf (j:=j) m);have n:=ze r;have E:=HS _ _ f.disk;clear f o m r)
       |(go_at_call 127;refine E.mono ?_;rintro e w4 ⟨rfl,v,q⟩;have l:=(ud z).after (S':=S3) (by rw[ud E3];exact v) q;have f0:w4.cell? (U j 0)=J (O d):=(by rw[qv l.head];rfl);have Z:=zd l.head;have G:=ze l;have A:=ze (jf (j:=j) q);have V:=HN _ _ l.disk;clear l v q)
       |(go_at_call 207;refine V.mono ?_;rintro e w5 ⟨rfl,a3,M,B,T⟩;have a0:=ze ((ud G).after (S':=S4) (by rw[ud E4];exact M) B);have a1:=ze (jf (j:=j) B);have a2:=ze T;clear M B T))
      go_ret;exact⟨rfl,⟨a3,a0,zK (zK (zK g b s) (qA.trans b g.size n) A) (qA.trans b g.size n) a1,qA.trans (qA.trans b g.size n) ((zK (zK g b s) (qA.trans b g.size n) A)).size a2⟩⟩
    ·simp only[X]at F;simp only[a4]at HS;go_in;go_wp2_with(first
      |(go_at_call 205;refine HH.mono ?_;rintro e w0 ⟨rfl,rfl⟩)
      |(go_at_call 206;refine HR.mono ?_;rintro e w1 ⟨rfl,a5,C,t,D⟩;have a:=(ud H).after (S':=S1) (by rw[ud E5];exact C) t;have u:=ze (jf (j:=j) t);have b:=ze D;clear C t D;obtain⟨c,p⟩:=a.setStart ((i.size:Int)+1);have d0:(w1.setCell (U j 1) (I ((i.size:Int)+1))).cell? (U j 0)=J (O d):=(by rw[qv c.head];rfl);have d1:=JN a.head 1;have d2:w1.cell? (U j 1)=J (I st):=(by rw[qv a.head];rfl);have d3:w1.cell? (U j 0)=J (O d):=(by rw[qv a.head];rfl);have P:=zd a.head;have Q:=zd c.head;have y:=ze c;have g:=ze (zK u b (p.mono (fun k _ e=> .inl e)));have x:=F _ _ c.disk;clear a c p F)
      |(go_at_call 126;refine x.mono ?_;rintro e w3 ⟨rfl,L,o,m,r⟩;have f:=(ud y).after (S':=S2) (by rw[ud E2];exact o) m;have e0:w3.cell? (U j 0)=J (O d):=(by rw[qv f.head];rfl);have R:=zd f.head;have z:=ze f;have s:=ze (jf (j:=j) m);have n:=ze r;have E:=HS _ _ f.disk;clear f o m r)
      |(go_at_call 127;refine E.mono ?_;rintro e w4 ⟨rfl,v,q⟩;have l:=(ud z).after (S':=S3) (by rw[ud E3];exact v) q;have f0:w4.cell? (U j 0)=J (O d):=(by rw[qv l.head];rfl);have Z:=zd l.head;have G:=ze l;have A:=ze (jf (j:=j) q);have V:=HN _ _ l.disk;clear l v q))
     go_ret;exact⟨rfl,⟨L,G,(zK (zK g b s) (qA.trans b g.size n) A),(qA.trans b g.size n)⟩⟩
   ·simp only[X]at F;go_in;go_wp2_with(first
     |(go_at_call 205;refine HH.mono ?_;rintro e w0 ⟨rfl,rfl⟩)
     |(go_at_call 206;refine HR.mono ?_;rintro e w1 ⟨rfl,a5,C,t,D⟩;have a:=(ud H).after (S':=S1) (by rw[ud E5];exact C) t;have u:=ze (jf (j:=j) t);have b:=ze D;clear C t D;obtain⟨c,p⟩:=a.setStart ((i.size:Int)+1);have d0:(w1.setCell (U j 1) (I ((i.size:Int)+1))).cell? (U j 0)=J (O d):=(by rw[qv c.head];rfl);have d1:=JN a.head 1;have d2:w1.cell? (U j 1)=J (I st):=(by rw[qv a.head];rfl);have d3:w1.cell? (U j 0)=J (O d):=(by rw[qv a.head];rfl);have P:=zd a.head;have Q:=zd c.head;have y:=ze c;have g:=ze (zK u b (p.mono (fun k _ e=> .inl e)));have x:=F _ _ c.disk;clear a c p F)
     |(go_at_call 126;refine x.mono ?_;rintro e w3 ⟨rfl,L,o,m,r⟩;have f:=(ud y).after (S':=S2) (by rw[ud E2];exact o) m;have e0:w3.cell? (U j 0)=J (O d):=(by rw[qv f.head];rfl);have R:=zd f.head;have z:=ze f;have s:=ze (jf (j:=j) m);have n:=ze r;have E:=HS _ _ f.disk;clear f o m r))
    go_ret;exact⟨rfl,⟨L,z,(zK g b s),(qA.trans b g.size n)⟩⟩
  ·simp only[ab]at HR;go_in;go_wp2_with(first
    |(go_at_call 205;refine HH.mono ?_;rintro e w0 ⟨rfl,rfl⟩)
    |(go_at_call 206;refine HR.mono ?_;rintro e w1 ⟨rfl,a5,C,t,D⟩;have a:=(ud H).after (S':=S1) (by rw[ud E5];exact C) t;have u:=ze (jf (j:=j) t);have b:=ze D;clear C t D;have ac:=ze a;clear a))
   go_ret;exact⟨rfl,⟨a5,ac,u,b⟩⟩
def zaf(S:DS)(st:Int):Bool:=decide (2*st+4096<(vk S kh).size)
theorem zdE(h:DOk S N)(nm:ByteArray):(vk S nm).size<=N:=by
 unfold vk;cases b:xS S.files nm with
 |none=>exact K _
 |some i=>
  obtain⟨f,a,_,_⟩:=kF b;simp only[a];exact(h.2.2.2 f (List.mem_of_getElem? a)).2
theorem zlE(h:JAt w j d st S fs)(N:Nat)(k:N<=1099511627776)(a:DOk S N)(f:0<=st/\st<=1099511627776):
  Calls prog 110 #[(O j)] w (Rz w (.bool (zaf S st))):=by
 have HR:=fun W (l:B_ w W)=>ze (zau 0 d S fs kh W N k a.2.2.1 (h.disk.later l));have g:=zdE a kh;have p:w.cell? (U j 0)=J (O d):=by rw[qv h.head];rfl
 have q:w.cell? (U j 1)=J (I st):=by rw[qv h.head];rfl
 have m:=zd h.head;obtain⟨t,i⟩:∃t,vk S kh=t:=⟨_,rfl⟩;unfold zaf;rw[i]at g ⊢;simp only[i]at HR;unfold kh at HR;have b:=HR w (Below.refl _ _);have c:=HR w.drew (Below.refl _ _).drew;obtain⟨n,o⟩:=f;clear h a HR i;have r:IntKind.i64.wrap (2*st)=2*st:=by rw[IntKind.wrap_i64];omega
 have s:IntKind.i64.wrap (2*st+4096)=2*st+4096:=by rw[IntKind.wrap_i64];omega
 go_in;go_wp2_with fail;go_region_held3 (fun w'=>w'.cell? (U j 0)=J (O d)/\w'.cell? (U j 1)=J (I st)) (go_keep) (first
  |(go_at_call 128;(first|(with_reducible refine(ud b).mono ?_)|(with_reducible refine(ud c).mono ?_));rintro e V ⟨rfl,rfl⟩))
 all_goals go_wp2_with fail
 all_goals go_ret
 all_goals exact⟨by simp,(Below.refl _ _).drew⟩
def zaV:ByteArray:=⟨#[43]⟩
def Vq(S:DS):DS:=if zt S then zS S kj zaV else xN (zS S kj zaV) kj
def zcP(S:DS):Bool:=!zt S&&!zt (zS S kj zaV)
def zhD(S:DS):Int:=if zcP S then(vk (xN (zS S kj zaV) kj) kj).size else 0
theorem zhE(h:zhi w d S fs)(N:Nat)(L:N+10<=1099511627776)(v:DOk S N):
  Calls prog 66 #[(O d)] w fun e w'=>e=.returned (.tuple #[I (zhD S),.bool (zcP S)])/\∃a,zhi w' d (Vq S) a/\zj (foot d fs) w w'/\qA w fs a:=by
 have G:zaV.size=1:=rfl;have p:=ze (QC 0 d S fs kj zaV w N (by omega) v (by omega) (K _) h);have m:DOk (zS S kj zaV) (N+1+1):=by have:=jA v kj zaV;rwa[G]at this
 have n:DOk (xN (zS S kj zaV) kj) (N+1+1+1):=YI m _;have s:=fun W a (D:zhi W d (zS S kj zaV) a)=>ze (zaN 0 d (zS S kj zaV) a kj W _ (by omega) m D);have HR:=fun W a (D:zhi W d (xN (zS S kj zaV) kj) a)=>ze (zau 0 d (xN (zS S kj zaV) kj) a kj W _ (by omega) n.2.2.1 D);have z:=zdE n kj;unfold zhD zcP Vq;generalize zS S kj zaV=F at*;obtain⟨C,o⟩:∃C,xN F kj=C:=⟨_,rfl⟩;have H:=ze o;rw[o]at z ⊢;simp only[o]at HR s;obtain⟨t,E⟩:∃t,vk C kj=t:=⟨_,rfl⟩;rw[E]at z ⊢;simp only[E]at HR;unfold kj zaV at p;unfold kj at HR s;clear v m n G E o;cases x:zt S
 ·cases y:zt F
  ·simp only[x]at p;simp only[y]at s;clear h;go_in;go_wp2_with(first
    |(go_at_call 126;refine p.mono ?_;rintro e w1 ⟨rfl,b,c,f,g⟩;have u:=s w1 b c;have k:=ze f;have i:=ze g;clear c f g)
    |(go_at_call 127;refine u.mono ?_;rintro e w2 ⟨rfl,j,l⟩;have B:=HR w2 b j;have q:=ze j;have r:=ze l;clear j l)
    |(go_at_call 128;refine B.mono ?_;rintro e M ⟨rfl,rfl⟩))
   go_ret2;exact⟨rfl,b,q,QK k i r,i⟩
  ·simp only[x]at p;simp only[y]at s;clear h HR;go_in;go_wp2_with(first
    |(go_at_call 126;refine p.mono ?_;rintro e w1 ⟨rfl,b,c,f,g⟩;have u:=s w1 b c;have k:=ze f;have i:=ze g;clear c f g)
    |(go_at_call 127;refine u.mono ?_;rintro e w2 ⟨rfl,j,l⟩;have q:=ze j;have r:=ze l;clear j l))
   go_ret2;exact⟨rfl,b,q,QK k i r,i⟩
 ·simp only[x]at p;clear h HR s;go_in;go_wp2_with(first
   |(go_at_call 126;refine p.mono ?_;rintro e w1 ⟨rfl,b,c,f,g⟩;have A:=ze c;have k:=ze f;have i:=ze g;clear c f g))
  go_ret2;exact⟨rfl,b,A,k,i⟩
def zmJ(t:ByteArray):Nat:=(Lib.lastIndexByte t 10+1).toNat
theorem znt(t:ByteArray):Lib.lastIndexByte t 10=(zmJ t:Int)-1/\zmJ t<=t.size:=by
 unfold zmJ Lib.lastIndexByte;rcases Lib.lastIdx_spec t 10 t.size with⟨h,-⟩|⟨i,a,h,-⟩
 ·rw[h];exact⟨rfl,K _⟩
 ·rw[h];constructor<;>omega
theorem zpz(s:ByteArray)(a:s.size<=1099511627776)(w:World):Calls prog 132 #[.string s,.int .u8 10] w fun e w'=>e=.returned (I (Lib.lastIndexByte s 10))/\w'=w:=
 Any.strings_LastIndexByte Tryz.layLI s 10 (by omega) w
theorem ziB(s:ByteArray)(w:World):Calls prog 131 #[.string s] w fun e w'=>e=.returned (.func (.func 202) #[] #[(O w.1.size)])/\w'=w.alloc (.cells #[.string s] 9):=by
 go_in;go_wp2_with fail;go_ret;exact⟨rfl,rfl⟩
theorem zdF(h:zhi w d S fs)(N:Nat)(g:N<=1099511627776)(a:DOk S N):
  Calls prog 72 #[(O d)] w fun e w'=>e=.returned (.func (.func 202) #[] #[(O w.1.size)])/\w'=w.alloc (.cells #[.string ((vk S kh).extract 0 (zmJ (vk S kh)))] 9):=by
 have HR:=ze (zau 0 d S fs kh w N g a.2.2.1 h);have i:=zdE a kh;generalize vk S kh=t at*;obtain⟨c,k⟩:=znt t;have b:=ze (zpz t (by omega) w);rw[c]at b;generalize zmJ t=n at*;have f:=ze (ziB (t.extract 0 n) w);unfold kh at HR;clear h a c;have j:((n:Int)-1+1)=n:=by omega
 go_in;go_wp2_with(first
  |(go_at_call 128;refine HR.mono ?_;rintro e w1 ⟨rfl,rfl⟩)
  |(go_at_call 132;refine b.mono ?_;rintro e w2 ⟨rfl,rfl⟩)
  |(go_at_call 131;refine f.mono ?_;rintro e l ⟨rfl,rfl⟩))
 go_ret;exact⟨rfl,rfl⟩
