import Derived.Test.YtndhpgciopcncaaGreatDoorXAbb
import Derived.Test.YtndhpgciopcncaaGreatDoorRows
import Derived.WalkSpells
import Derived.WalkLawsBesides
import Derived.Deep.WholeRow
import Derived.DeepKeys4
import Derived.RangeFuncNested
import Derived.RangeFuncBound
import Derived.Shelf.RegionOpen
import Derived.OwnWalkIn
import Derived.LoopNIn
import Derived.LoopIn
open Option renaming some → G
open Go renaming World → z9
open Nat renaming le_refl → za
open Go renaming Value → zb
open Go.RowKit.Below renaming refl → zf
open Go.RowKit renaming Below → zg
open Option renaming none → zl
open Nat renaming zero_le → zp
open List renaming mem_cons → zs
open Nat renaming lt_of_lt_of_le → zz
open Nat renaming le_trans → zA
set_option linter.unusedVariables false
set_option maxRecDepth 100000
set_option maxHeartbeats 2000000
open Go.Proofs.Tryz
open Go renaming undef → u_
namespace Go.Proofs.YtndhpgciopcncaaGreatDoor
section
open Go.RowKit
variable {cs:Array zb} {b:Bool} {t:Int} {xs:List zb} {B cap g i k n p size:Nat} {F K W:Nat->Int} {f:Nat->Prop} {fr:Nat×Nat} {a:Option Addr} {P:Program} {gv kv nv pv tv v:zb} {w w':z9}
def inB(x b a:Int):Bool:=decide (b<=x)&&decide (x<=a)
theorem qZ(x b a:Int):inB x b a=true↔b<=x/\x<=a:=by simp[inB]
theorem zbs(x b a:Int):inB x b a=false↔¬(b<=x/\x<=a):=by
 rw[<-qZ];simp
def Q6(b:Bool):Int:=if b then 0 else 1
theorem zcW(h:b=true):Q6 b=0:=by rw[h];rfl
theorem kN(h:b=false):Q6 b=1:=by rw[h];rfl
def down(F:Nat->Int):Nat->Int->Bool
 |0,_=>false
 |k+1,t=>F t.toNat== -1||down F k (F t.toNat)
def xi(n:Nat)(F:Nat->Int):Nat->Int->Bool
 |0,_=>false
 |k+1,t=>t== -1||(!(decide (t< -1)||decide ((n:Int)<=t))&&xi n F k (F t.toNat))
def vK(n:Nat)(p:Nat->Bool):Bool:=(List.range n).all p
theorem vq(n:Nat)(p:Nat->Bool):vK n p=true↔∀i,i<n->p i=true:=by simp[vK]
theorem XT(p:Nat->Bool):vK 0 p=true:=by simp[vK]
theorem XS(n:Nat)(p:Nat->Bool):vK (n+1) p=(vK n p&&p n):=by
 rw[Bool.eq_iff_iff];simp only[vq,Bool.and_eq_true];constructor
 ·intro h;exact⟨fun i c=>h i (by omega),h n (by omega)⟩
 ·rintro⟨a,b⟩ i c;by_cases e:i=n
  ·subst e;exact b
  ·exact a i (by omega)
theorem qi(n:Nat)(p:Nat->Bool)(i:Nat)(b:i<n)(h:p i=false):vK n p=false:=by
 rw[Bool.eq_false_iff];intro a;rw[vq]at a;rw[a i b]at h;cases h
def xp(a:Int)(W:Nat->Int)(t:Int):Int:=if t= -1 then a else W t.toNat
def Z7(n:Nat)(F W K:Nat->Int)(i:Nat):Bool:=inB (F i) (-1) ((n:Int)-1)&&inB (W i) 1 1000&&inB (K i) 0 1000
def zdg(n:Nat)(a:Int)(F W:Nat->Int)(i:Nat):Bool:=(W i%xp a W (F i)==0)&&down F n i
def xR(s c b a ke d:Int)(n:Nat)(F W K:Nat->Int):Bool:=
 inB s 1 4&&inB c 1 100&&inB b 0 100&&inB a 1 50&&inB ke 0 1000&&inB d 1 400&&inB n 1 4&&vK n (Z7 n F W K)&&vK n (zdg n a F W)
def jg(n:Nat)(F W K:Nat->Int)(i:Nat):Bool:=xi n F (n+1) i&&inB (W i) 1 1000&&inB (K i) 0 1000
def zet(a:Int)(F W:Nat->Int)(i:Nat):Bool:=W i%xp a W (F i)==0
def zdj(s b a d ke c:Int)(n:Nat):Bool:=
 inB s 1 4&&inB b 1 100&&inB a 0 100&&inB d 1 50&&inB ke 0 1000&&inB c 1 400&&inB n 1 4
def zcd(s c b a ke d:Int)(n:Nat)(F W K:Nat->Int):Bool:=
 zdj s c b a ke d n&&vK n (jg n F W K)&&vK n (zet a F W)
theorem QQ(n:Nat)(F:Nat->Int)(d:∀i,i<n-> -1<=F i/\F i<n):∀(k:Nat) (t:Int),0<=t->t<n->xi n F (k+1) t=down F k t
 |0,t,g,h=>by
  have a:(t== -1)=false:=by simp;omega
  rw[xi,a];simp[xi,down]
 |k+1,t,g,h=>by
  have j:=d t.toNat (by omega);have f:xi n F (k+1+1) t=xi n F (k+1) (F t.toNat):=by
   have a:(t== -1)=false:=(by simp;omega);have b:decide (t< -1)=false:=(by simp;omega);have c:decide ((n:Int)<=t)=false:=(by simp;omega);rw[xi,a,b,c];simp
  rw[f,down];by_cases e:F t.toNat= -1
  ·simp[xi,e]
  ·rw[QQ n F d k (F t.toNat) (by omega) j.2];have a:(F t.toNat== -1)=false:=(by simpa using e);rw[a];simp
theorem Xl(n:Nat)(F:Nat->Int)(i:Nat)(b:i<n)(h:xi n F (n+1) i=true): -1<=F i/\F i<n:=by
 obtain⟨m,rfl⟩:∃m,n=m+1:=⟨n-1,by omega⟩;have a:((i:Int)== -1)=false:=beq_eq_false_iff_ne.2 (by omega);rw[xi,a,xi]at h;simp at h;omega
theorem zgN(s q p t ke r:Int)(n:Nat)(F W K:Nat->Int):xR s q p t ke r n F W K=zcd s q p t ke r n F W K:=by
 rw[Bool.eq_iff_iff];simp only[xR,zcd,zdj,Bool.and_eq_true,vq,and_assoc];constructor
 ·rintro⟨g,h,j,k,l,m,o,d,e⟩;have f:∀i,i<n-> -1<=F i/\F i<n:=fun i c=>by
   have:=d i c;simp only[Z7,Bool.and_eq_true,qZ]at this;omega
  refine⟨g,h,j,k,l,m,o,fun i c=>?_,fun i c=>?_⟩
  ·have a:=d i c;have b:=e i c;simp only[Z7,zdg,Bool.and_eq_true]at a b;simp only[jg,Bool.and_eq_true];refine⟨⟨?_,a.1.2⟩,a.2⟩;rw[QQ n F f n i (by omega) (by omega)];exact b.2
  ·have b:=e i c;simp only[zdg,Bool.and_eq_true]at b;exact b.1
 ·rintro⟨g,h,j,k,l,m,o,d,e⟩;have f:∀i,i<n-> -1<=F i/\F i<n:=fun i c=>by
   have:=d i c;simp only[jg,Bool.and_eq_true]at this;exact Xl n F i c this.1.1
  refine⟨g,h,j,k,l,m,o,fun i c=>?_,fun i c=>?_⟩
  ·have a:=d i c;have b:=f i c;simp only[jg,Bool.and_eq_true]at a;simp only[Z7,Bool.and_eq_true,qZ];refine⟨⟨by omega,?_⟩,?_⟩
   ·have:=a.1.2;rwa[qZ]at this
   ·have:=a.2;rwa[qZ]at this
  ·have a:=d i c;have b:=e i c;simp only[jg,Bool.and_eq_true]at a;simp only[zdg,Bool.and_eq_true];refine⟨b,?_⟩;rw[<-QQ n F f n i (by omega) (by omega)];exact a.1.1
def TS(w:z9)(a:Option Addr)(n:Nat)(F W K:Nat->Int):Prop:=
 0<n->∃b off,a=G (U b off)/\b<w.1.size/\∀i,i<n->w.cell? (U b (off+i*3))=G (I (F i))/\w.cell? (U b (off+i*3+1))=G (I (W i))/\w.cell? (U b (off+i*3+2))=G (I (K i))
theorem TS.below(h:TS w a n F W K)(d:B_ w w'):TS w' a n F W K:=fun f=>by
 obtain⟨b,off,rfl,c,g⟩:=h f;have e:∀o,w'.cell? (U b o)=w.cell? (U b o):=fun o=>d.cell (p:=(U b o)) c;exact⟨b,off,rfl,zz c d.size,fun i j=>by simp only[e];exact g i j⟩
theorem zpf{W w1:z9}(a:B_ W w1):(∀b o,b<W.1.size->w1.cell? (U b o)=W.cell? (U b o))/\(∀b o,b<W.1.size->w1.frozen? (U b o)=W.frozen? (U b o)):=
 ⟨fun b o h=>a.cell (p:=(U b o)) h,fun b o h=>a.frozen (p:=(U b o)) h⟩
theorem K8(w:z9)(C:Array zb)(t:TypeId)(fr:Nat×Nat)(n j:Nat)(hn:n=w.1.size):(w.alloc (.cells C t fr)).cell? (U n j)=C[j]?:=by
 subst hn;exact World.cell?_alloc_mark w C t fr j
def CF(w:z9)(p:Nat)(s c b e ke d:Int)(a:Option Addr)(n cap:Nat):Prop:=
 p<w.1.size/\w.cell? (U p 0)=G (I s)/\w.cell? (U p 1)=G (I c)/\w.cell? (U p 2)=G (I b)/\w.cell? (U p 3)=G (I e)/\w.cell? (U p 4)=G (I ke)/\w.cell? (U p 5)=G (I d)/\w.cell? (U p 6)=G (.slice a n cap)
theorem CF.made(w:z9)(t:TypeId)(fr:Nat×Nat)(s c b e ke d:Int)(a:Option Addr)(n cap:Nat):
  CF (w.alloc (.cells #[I s,I c,I b,I e,I ke,I d,.slice a n cap] t fr)) w.1.size s c b e ke d a n cap:=by
 refine⟨by simp,?_,?_,?_,?_,?_,?_,?_⟩<;>rw[K8 _ _ _ _ _ _ rfl]<;>rfl
theorem CF.below{s d c g ke f:Int}(h:CF w p s d c g ke f a n cap)(b:zg B w w')(j:p<B):CF w' p s d c g ke f a n cap:=by
 have e:∀o,w'.cell? (U p o)=w.cell? (U p o):=fun o=>b.cell (p:=(U p o)) j;obtain⟨i,h⟩:=h;exact⟨zz i b.size,by simp only[e];exact h⟩
theorem zQ{a:Bool}(h:a=b):Ending.returned (.bool a)=.returned (.bool b):=by rw[h]
theorem ZB{k:IntKind}{a b:Int}(h:a=b):Ending.returned (.int k a)=.returned (.int k b):=by rw[h]
theorem xT(x b a:Int)(w:z9):
  Calls prog 92 #[I x,I b,I a] w fun e w'=>e=.returned (.bool (inB x b a))/\w'=w:=by
 by_cases c:b<=x
 ·by_cases d:x<=a;all_goals
   go_in
   go_wp2
   go_ret
   exact⟨zQ (by simp[inB, *]),rfl⟩
 ·go_in;go_wp2;go_ret;exact⟨zQ (by simp[inB];omega),rfl⟩
theorem Zb(x b a:Int)(w:z9):
  Calls prog 136 #[I x,I b,I a] w fun e w'=>e=.returned (.bool (inB x b a))/\w'=w:=by
 by_cases c:b<=x
 ·by_cases d:x<=a;all_goals
   go_in
   go_wp2
   go_ret
   exact⟨zQ (by simp[inB, *]),rfl⟩
 ·go_in;go_wp2;go_ret;exact⟨zQ (by simp[inB];omega),rfl⟩
theorem zkD(s d c b ke e:Int)(a:Option Addr)(n cap:Nat)(w:z9):
  Calls prog 237 #[.agg #[I s,I d,I c,I b,I ke,I e,.slice a n cap],I (-1)] w (Rz w (I b)):=by
 go_in;go_wp2;go_ret;exact⟨rfl,(zf _ _).alloc (za _) _⟩
theorem zhg(s k j m ke l:Int)(a:Option Addr)(n cap:Nat)(F W K:Nat->Int)(i:Nat)(e:i<n)(hn:n<=4)(w:z9)(h:TS w a n F W K):
  Calls prog 237 #[.agg #[I s,I k,I j,I m,I ke,I l,.slice a n cap],I i] w (Rz w (I (W i))):=by
 obtain⟨b,off,rfl,c,d⟩:=h (by omega);obtain⟨o,p,q⟩:=d i e;have g:((i:Int)== -1)=false:=beq_eq_false_iff_ne.2 (by omega);have f:(i:Int)<n:=by omega
 go_in;go_wp2;go_ret;exact⟨rfl,(zf _ _).alloc (za _) _⟩
theorem zhq(s d c b ke e:Int)(a:Option Addr)(n cap:Nat)(w:z9):
  Calls prog 138 #[.agg #[I s,I d,I c,I b,I ke,I e,.slice a n cap],I (-1)] w (Rz w (I b)):=by
 go_in;go_wp2;go_ret;exact⟨rfl,(zf _ _).alloc (za _) _⟩
theorem zfo(s k j m ke l:Int)(a:Option Addr)(n cap:Nat)(F W K:Nat->Int)(i:Nat)(e:i<n)(hn:n<=4)(w:z9)(h:TS w a n F W K):
  Calls prog 138 #[.agg #[I s,I k,I j,I m,I ke,I l,.slice a n cap],I i] w (Rz w (I (W i))):=by
 obtain⟨b,off,rfl,c,d⟩:=h (by omega);obtain⟨o,p,q⟩:=d i e;have g:((i:Int)== -1)=false:=beq_eq_false_iff_ne.2 (by omega);have f:(i:Int)<n:=by omega
 go_in;go_wp2;go_ret;exact⟨rfl,(zf _ _).alloc (za _) _⟩
theorem kX(s d c b ke f:Int)(a:Option Addr)(n cap:Nat)(F W K:Nat->Int)(t:Int)(g: -1<=t)(j:t<n)(hn:n<=4)(w:z9)(h:TS w a n F W K):
  Calls prog 237 #[.agg #[I s,I d,I c,I b,I ke,I f,.slice a n cap],I t] w (Rz w (I (xp b W t))):=by
 by_cases e:t= -1
 ·subst e;simp only[xp,if_pos];exact zkD s d c b ke f a n cap w
 ·obtain⟨i,rfl⟩:=Int.eq_ofNat_of_zero_le (show 0<=t by omega);simp only[xp,if_neg e,Int.toNat_natCast];exact zhg s d c b ke f a n cap F W K i (by omega) hn w h
theorem jB(s d c b ke f:Int)(a:Option Addr)(n cap:Nat)(F W K:Nat->Int)(t:Int)(g: -1<=t)(j:t<n)(hn:n<=4)(w:z9)(h:TS w a n F W K):
  Calls prog 138 #[.agg #[I s,I d,I c,I b,I ke,I f,.slice a n cap],I t] w (Rz w (I (xp b W t))):=by
 by_cases e:t= -1
 ·subst e;simp only[xp,if_pos];exact zhq s d c b ke f a n cap w
 ·obtain⟨i,rfl⟩:=Int.eq_ofNat_of_zero_le (show 0<=t by omega);simp only[xp,if_neg e,Int.toNat_natCast];exact zfo s d c b ke f a n cap F W K i (by omega) hn w h
theorem jw(a:Option Addr)(n cap:Nat)(F W K:Nat->Int)(t0:Nat)(v:t0<n)(hn:n<=4)(r:∀i,i<n-> -1<=F i/\F i<n)(w:z9)(h:TS w a n F W K):
  Calls prog 240 #[.slice a n cap,I t0] w fun e w'=>e=.returned (.bool (down F n t0))/\w'=w:=by
 obtain⟨b,off,rfl,s,u⟩:=h (by omega);go_in;go_wp2
 go_loop [1,7] (fun x y=>∃(t k:Nat),t<n/\k<=n/\x=I t/\y=I k/\down F n t0=down F (n-k) t) (fun _ y=>n-(intOf y).toNat)
 case atStart=>exact⟨t0,0,v,zp _,rfl,rfl,rfl⟩
 case round=>
  obtain⟨t,k,p,D,rfl,rfl,j⟩:=hrel;have d:Hid (down F n t0=down F (n-k) t):=j;clear j;obtain⟨B,_,_⟩:=u t p;have C:=r t p;have A:(t:Int)<n:=by omega
  by_cases z:k<n
  ·have o:down F (n-k) t=(F t== -1||down F (n-(k+1)) (F t)):=by
    rw[show n-k=(n-(k+1))+1 by omega,down];simp
   have c:=o;clear o;have c:Hid (down F n t0=(F t== -1||down F (n-(k+1)) (F t))):=(by rw[d.out];exact c);by_cases e:F t= -1
   ·have q:Hid (down F n t0=true):=(by rw[c.out,e];simp[Hid]);clear c d;have g:(F t== -1)=true:=(by simp[e]);clear e;go_wp2;go_ret;exact⟨zQ q.out.symm,rfl⟩
   ·have g:(F t== -1)=false:=(by simp[e]);obtain⟨m,l⟩:=Int.eq_ofNat_of_zero_le (show 0<=F t by omega);have f:Hid (F t=m):=l;clear l e;go_wp2
    go_round
    case rel=>exact⟨m,k+1,by have:=f.out;omega,by omega,by rw[f.out],by go_num,by rw[c.out,g,f.out];simp⟩
    case measure=>simp[intOf];omega
  ·go_wp2;go_ret;exact⟨zQ (by rw[d.out,show n-k=0 by omega];rfl),rfl⟩
theorem Q7(s z v B ke A:Int)(a:Option Addr)(n cap:Nat)(F W K:Nat->Int)(t0:Nat)(D:t0<n)(hn:n<=4)(w:z9)(h:TS w a n F W K):
  Calls prog 137 #[.agg #[I s,I z,I v,I B,I ke,I A,.slice a n cap],I t0] w (Rz w (.bool (xi n F (n+1) t0))):=by
 obtain⟨b,off,rfl,p,q⟩:=h (by omega);go_in;go_wp2
 go_loop [1,5] (fun x y=>∃(t:Int) (k:Nat),k<=n+1/\x=I t/\y=I k/\xi n F (n+1) t0=xi n F (n+1-k) t) (fun _ y=>n+1-(intOf y).toNat)
 case atStart=>exact⟨t0,0,zp _,rfl,rfl,rfl⟩
 case round=>
  obtain⟨t,k,E,rfl,rfl,j⟩:=hrel;have g:Hid (xi n F (n+1) t0=xi n F (n+1-k) t):=j;clear j;by_cases r:k<=n
  ·have o:xi n F (n+1-k) t=(t== -1||(!(decide (t< -1)||decide ((n:Int)<=t))&&xi n F (n+1-(k+1)) (F t.toNat))):=by
    rw[show n+1-k=(n+1-(k+1))+1 by omega,xi]
   have c:Hid (xi n F (n+1) t0=(t== -1||(!(decide (t< -1)||decide ((n:Int)<=t))&&xi n F (n+1-(k+1)) (F t.toNat)))):=(by rw[g.out];exact o);clear o g;by_cases e:t= -1
   ·subst e;have d:Hid (xi n F (n+1) t0=true):=(by rw[c.out];simp[Hid]);clear c;go_wp2;go_ret;exact⟨zQ d.out.symm,(zf _ _).alloc (za _) _⟩
   ·have i:(t== -1)=false:=(by simp[e]);by_cases l:t< -1
    ·have d:Hid (xi n F (n+1) t0=false):=(by rw[c.out,i];simp[Hid,l]);clear c e;go_wp2;go_ret;exact⟨zQ d.out.symm,(zf _ _).alloc (za _) _⟩
    ·by_cases f:(n:Int)<=t
     ·have d:Hid (xi n F (n+1) t0=false):=(by rw[c.out,i];simp[Hid,f]);clear c e;go_wp2;go_ret;exact⟨zQ d.out.symm,(zf _ _).alloc (za _) _⟩
     ·obtain⟨m,rfl⟩:=Int.eq_ofNat_of_zero_le (show 0<=t by omega);have u:(m:Int)<n:=(by omega);obtain⟨C,_,_⟩:=q m (by omega);have d:Hid (xi n F (n+1) t0=xi n F (n+1-(k+1)) (F m)):=(by rw[c.out,i];simp[Hid,l,f]);clear c e;go_wp2
      go_round
      case rel=>exact⟨F m,k+1,by omega,rfl,by go_num,d.out⟩
      case measure=>simp[intOf];omega
  ·go_wp2;go_ret;exact⟨zQ (by rw[g.out,show n+1-k=0 by omega];rfl),(zf _ _).alloc (za _) _⟩
theorem VO(a:Option Addr)(n cap:Nat)(F W K:Nat->Int)(hn:n<=4)(w:z9)(h:TS w a n F W K):
  Calls prog 195 #[.slice a n cap] w (Rz w (.bool (vK n (Z7 n F W K)))):=by
 go_in;go_wp2;go_loopw [2,4,7] (fun _ _ y wr=>∃(k:Nat),k<=n/\y=I k/\vK k (Z7 n F W K)=true/\B_ w wr) (fun _ _ y _=>n-(intOf y).toNat);case atStart=>exact⟨0,zp _,rfl,XT _,zf _ _⟩
 case round=>
  obtain⟨k,v,rfl,o,c⟩:=hrel;have g:Hid (vK k (Z7 n F W K)=true):=o;clear o;by_cases d:k<n
  ·have m:=h.below c;obtain⟨b,off,rfl,q,p⟩:=m (by omega);obtain⟨s,t,u⟩:=p k d;have r:(k:Int)<n:=(by omega);clear p h m;cases i:inB (F k) (-1) ((n:Int)-1)
   ·have f:Hid (vK n (Z7 n F W K)=false):=qi _ _ k d (by simp[Z7,i]);go_wp2_with(go_at_call 92;refine(xT _ _ _ _).mono ?_;rintro e w' ⟨rfl,rfl⟩);go_ret;exact⟨zQ f.out.symm,c.alloc c.size _⟩
   ·cases j:inB (W k) 1 1000
    ·have f:Hid (vK n (Z7 n F W K)=false):=qi _ _ k d (by simp[Z7,j]);go_wp2_with(go_at_call 92;refine(xT _ _ _ _).mono ?_;rintro e w' ⟨rfl,rfl⟩);go_ret;exact⟨zQ f.out.symm,c.alloc c.size _⟩
    ·cases l:inB (K k) 0 1000
     ·have f:Hid (vK n (Z7 n F W K)=false):=qi _ _ k d (by simp[Z7,l]);go_wp2_with(go_at_call 92;refine(xT _ _ _ _).mono ?_;rintro e w' ⟨rfl,rfl⟩);go_ret;exact⟨zQ f.out.symm,c.alloc c.size _⟩
     ·have f:Hid (vK (k+1) (Z7 n F W K)=true):=by
       show _=_;rw[XS,g.out];simp[Z7,i,j,l]
      go_wp2_with(go_at_call 92;refine(xT _ _ _ _).mono ?_;rintro e w' ⟨rfl,rfl⟩);go_roundw;case rel=>exact⟨k+1,by omega,by go_num,f.out,c.alloc c.size _⟩
      case measure=>simp[intOf];omega
  ·have e:k=n:=(by omega);subst e;go_wp2;go_ret;exact⟨zQ g.out.symm,c⟩
structure Cf where
 s:Int
 le:Int
 la:Int
 wi:Int
 ke:Int
 qu:Int
 n:Nat
 F:Nat->Int
 W:Nat->Int
 K:Nat->Int
abbrev aZz(c:Cf)(a:Option Addr)(k:Nat):Array zb:=#[I c.s,I c.le,I c.la,I c.wi,I c.ke,I c.qu,.slice a c.n k]
abbrev cZz(c:Cf)(a:Option Addr)(k:Nat):zb:=.agg (aZz c a k)
abbrev kZz(a b c d:Int):Array zb:=#[I a,I b,I c,i_ d]
structure Nm where
 se:Int
 tm:Int
 val:Int
structure Sg where
 t:Int
 se:Int
 we:Int
deriving DecidableEq
structure Cl where
 cnt:Int
 sum:Int
 mn:Int
 mx:Int
structure Tk where
 kind:Int
 s:Sg
 si:Int
 tc:Int
 rest:Int
 ep:Int
 num:Int
 slot:Int
 till:Int
abbrev yZz(x:Tk):Array zb:=#[I x.kind,I x.s.t,I x.s.se,I x.s.we,I x.si,I x.tc,I x.rest,I x.ep,I x.num,I x.slot,I x.till]
structure RM where
 c:Cf
 now:Int
 nu:List Nm
 pub:List Sg
 gone:List Sg
 tg:List Tk
 epoch:Int
 picks:Int
def nmV(x:Nm):List zb:=[I x.se,I x.tm,i_ x.val]
def sgV(x:Sg):List zb:=[I x.t,I x.se,I x.we]
def tkV(x:Tk):List zb:=[I x.kind,I x.s.t,I x.s.se,I x.s.we,I x.si,I x.tc,I x.rest,I x.ep,I x.num,I x.slot,I x.till]
section
variable {α:Type}
theorem zeu{f:α->List zb}{k:Nat}(b:∀a,(f a).length=k):∀l:List α,(l.flatMap f).length=l.length*k
 |[]=>by simp
 |a::l=>by rw[List.flatMap_cons,List.length_append,b,zeu b l,List.length_cons,Nat.add_mul];omega
theorem qs{f:α->List zb}{k:Nat}(c:∀a,(f a).length=k):∀(l:List α) (i:Nat) (a:α) (j:Nat),l[i]?=G a->j<k->(l.flatMap f)[i*k+j]?=(f a)[j]?
 |[],i,a,j,h,_=>by simp at h
 |b::l,0,a,j,h,d=>by
  simp at h;subst h;rw[List.flatMap_cons,List.getElem?_append_left (by rw[c];omega)];simp
 |b::l,i+1,a,j,h,d=>by
  have:=qs c l i a j (by simpa using h) d;rw[List.flatMap_cons,List.getElem?_append_right (by rw[c,Nat.add_mul];omega),c,<-this];congr 1;rw[Nat.add_mul];omega
theorem jT{f:α->List zb}(c:∀a,∀v∈f a,v.oneCell'=true)(l:List α):∀v∈l.flatMap f,v.oneCell'=true:=fun v hv=>by
 obtain⟨a,_,b⟩:=List.mem_flatMap.1 hv;exact c a v b
theorem Km(f:α->List zb)(l:List α)(a:α):(l++[a]).flatMap f=l.flatMap f++f a:=by simp
end
theorem zdt(x:Nm):(nmV x).length=3:=rfl
theorem zdM(x:Sg):(sgV x).length=3:=rfl
theorem yd(x:Tk):(tkV x).length=11:=rfl
theorem ziN(x:Nm):∀v∈nmV x,v.oneCell'=true:=fun v h=>by
 simp only[nmV,zs,List.not_mem_nil,or_false]at h;rcases h with rfl|rfl|rfl<;>rfl
theorem zaI(x:Sg):∀v∈sgV x,v.oneCell'=true:=fun v h=>by
 simp only[sgV,zs,List.not_mem_nil,or_false]at h;rcases h with rfl|rfl|rfl<;>rfl
theorem Y9(x:Tk):∀v∈tkV x,v.oneCell'=true:=fun v h=>by
 simp only[tkV,zs,List.not_mem_nil,or_false]at h;rcases h with rfl|rfl|rfl|rfl|rfl|rfl|rfl|rfl|rfl|rfl|rfl<;>rfl
structure Cf.ok(c:Cf):Prop where
 n1:1<=c.n
 n4:c.n<=4
 wi1:1<=c.wi
 wi2:c.wi<=1000
 W:∀i,i<c.n->1<=c.W i/\c.W i<=1000
 F:∀i,i<c.n-> -1<=c.F i/\c.F i<c.n
 K:∀i,i<c.n->0<=c.K i/\c.K i<=1000
 ke:0<=c.ke/\c.ke<=1000
 la:0<=c.la/\c.la<=100
 qu:1<=c.qu/\c.qu<=400
 sl:1<=c.s/\c.s<=4
 le:1<=c.le/\c.le<=100
def Cf.wh(c:Cf)(t:Int):Int:=xp c.wi c.W t
variable {c:Cf}
theorem Cf.ok.wh(h:c.ok)(a: -1<=t)(b:t<c.n):1<=c.wh t/\c.wh t<=1000:=by
 unfold Cf.wh xp;split
 ·exact⟨h.wi1,h.wi2⟩
 ·exact h.W _ (by omega)
def zT(c:Cf)(t:Int)(x:Nm):Sg:=⟨t,x.se,x.tm/c.wh t⟩
def Xq(l:List Sg)(s:Sg):List Sg:=if s∈l then l else l++[s]
def qc(c:Cf)(t:Int)(nu:List Nm)(l:List Sg):List Sg:=nu.foldl (fun l x=>Xq l (zT c t x)) l
def yW(c:Cf)(nu:List Nm)(k:Nat):List Sg:=(List.range k).foldl (fun l (j:Nat)=>qc c ((j:Int)-1) nu l) []
def zV(c:Cf)(nu:List Nm):List Sg:=yW c nu (c.n+1)
theorem Z4(c:Cf)(nu:List Nm)(k:Nat):yW c nu (k+1)=qc c ((k:Int)-1) nu (yW c nu k):=by
 simp[yW,List.range_succ]
theorem zaD(c:Cf)(t:Int)(nu:List Nm)(l:List Sg)(i:Nat)(x:Nm)(h:nu[i]?=G x):qc c t (nu.take (i+1)) l=Xq (qc c t (nu.take i) l) (zT c t x):=by
 obtain⟨a,b⟩:=List.getElem?_eq_some_iff.1 h;rw[List.take_succ_eq_append_getElem a,b];simp[qc]
theorem zhu(l:List Sg)(s:Sg):(Xq l s).length<=l.length+1:=by unfold Xq;split<;>simp
theorem ZC(c:Cf)(t:Int):∀(nu:List Nm) (l:List Sg),(qc c t nu l).length<=l.length+nu.length
 |[],l=>by simp[qc]
 |x::r,l=>by
  have:=ZC c t r (Xq l (zT c t x));have a:=zhu l (zT c t x);simp only[qc,List.foldl_cons,List.length_cons]at*;omega
theorem Y5(c:Cf)(nu:List Nm):∀k,(yW c nu k).length<=k*nu.length
 |0=>by simp[yW]
 |k+1=>by
  have:=Y5 c nu k;have a:=ZC c ((k:Int)-1) nu (yW c nu k);rw[Z4,Nat.add_mul];omega
variable {l:List Sg} {s:Sg}
theorem ziE{x:Sg}:x∈Xq l s↔x∈l\/x=s:=by
 unfold Xq;split
 ·rename_i h;constructor
  ·exact .inl
  ·rintro(a|rfl)<;>assumption
 ·simp
theorem Yf(c:Cf)(t:Int)(s:Sg):∀(nu:List Nm) (l:List Sg),s∈qc c t nu l↔s∈l\/∃x∈nu,s=zT c t x
 |[],l=>by simp[qc]
 |x::r,l=>by
  have:=Yf c t s r (Xq l (zT c t x));simp only[qc,List.foldl_cons]at this ⊢;rw[this,ziE];simp only[zs,exists_eq_or_imp];constructor
  ·rintro((h|h)|h)
   ·exact .inl h
   ·exact .inr (.inl h)
   ·exact .inr (.inr h)
  ·rintro(h|h|h)
   ·exact .inl (.inl h)
   ·exact .inl (.inr h)
   ·exact .inr h
theorem J9(c:Cf)(nu:List Nm)(s:Sg):∀k,s∈yW c nu k↔∃j,j<k/\∃x∈nu,s=zT c ((j:Int)-1) x
 |0=>by simp[yW]
 |k+1=>by
  rw[Z4,Yf,J9 c nu s k];constructor
  ·rintro(⟨j,a,h⟩|h)
   ·exact⟨j,by omega,h⟩
   ·exact⟨k,by omega,h⟩
  ·rintro⟨j,a,h⟩;by_cases e:j=k
   ·subst e;exact .inr h
   ·exact .inl ⟨j,by omega,h⟩
variable {nu:List Nm}
theorem kD:s∈zV c nu↔ -1<=s.t/\s.t<c.n/\∃x∈nu,s=zT c s.t x:=by
 unfold zV;rw[J9];constructor
 ·rintro⟨j,e,x,a,rfl⟩;refine⟨?_,?_,x,a,rfl⟩<;>simp only[zT]<;>omega
 ·rintro⟨b,d,x,a,h⟩;refine⟨(s.t+1).toNat,by omega,x,a,?_⟩;have:(((s.t+1).toNat:Nat):Int)-1=s.t:=by omega
  rw[this];exact h
theorem zcK(h:l.Nodup):(Xq l s).Nodup:=by
 unfold Xq;split
 ·exact h
 ·rename_i hn;rw[List.nodup_append];exact⟨h,by simp,fun a d b c=>by simp at c;subst c;intro e;subst e;exact hn d⟩
theorem Xn(c:Cf)(t:Int):∀(nu:List Nm) (l:List Sg),l.Nodup->(qc c t nu l).Nodup
 |[],l,h=>by simpa[qc]using h
 |x::r,l,h=>by
  have:=Xn c t r (Xq l (zT c t x)) (zcK h);simpa only[qc,List.foldl_cons]using this
theorem Yn(c:Cf)(nu:List Nm):∀k,(yW c nu k).Nodup
 |0=>by simp[yW]
 |k+1=>by rw[Z4];exact Xn c _ nu _ (Yn c nu k)
theorem Ym(c:Cf)(nu:List Nm):(zV c nu).Nodup:=Yn c nu _
def Zn(a:Cl)(v:Int):Cl:=⟨a.cnt+1,a.sum+v,if a.cnt=0\/v<a.mn then v else a.mn,if a.cnt=0\/a.mx<v then v else a.mx⟩
def qW(c:Cf)(s:Sg)(a:Cl)(x:Nm):Cl:=if zT c s.t x=s then Zn a x.val else a
def xy(c:Cf)(s:Sg)(nu:List Nm):Cl:=nu.foldl (qW c s) ⟨0,0,0,0⟩
theorem K7(c:Cf)(s:Sg)(nu:List Nm)(i:Nat)(x:Nm)(h:nu[i]?=G x):xy c s (nu.take (i+1))=qW c s (xy c s (nu.take i)) x:=by
 obtain⟨a,b⟩:=List.getElem?_eq_some_iff.1 h;rw[List.take_succ_eq_append_getElem a,b];simp[xy]
def ZG(c:Cf)(nu:List Nm)(rc:List Sg)(s:Sg):Int:=if s∈rc then 0 else if s.t= -1 then(xy c s nu).cnt else 2
def vX(c:Cf)(nu:List Nm)(rc l:List Sg):Int:=l.foldl (fun n s=>n+ZG c nu rc s) 0
def RM.used(m:RM):Int:=vX m.c m.nu m.gone (zV m.c m.nu)
theorem zdX(c:Cf)(nu:List Nm)(rc l:List Sg)(i:Nat)(s:Sg)(h:l[i]?=G s):vX c nu rc (l.take (i+1))=vX c nu rc (l.take i)+ZG c nu rc s:=by
 obtain⟨a,b⟩:=List.getElem?_eq_some_iff.1 h;rw[List.take_succ_eq_append_getElem a,b];simp[vX]
def Nm.ok(x:Nm):Prop:= -2147483648<=x.val/\x.val<=2147483647/\0<=x.tm/\x.tm<=100000/\0<=x.se/\x.se<4
theorem XY(c:Cf)(s:Sg):∀(nu:List Nm) (a:Cl) (k:Nat),(∀x∈nu,x.ok)->(0<=a.cnt/\a.cnt<=k/\ -(2147483648*(k:Int))<=a.sum/\a.sum<=2147483648*(k:Int))->
  0<=(nu.foldl (qW c s) a).cnt/\(nu.foldl (qW c s) a).cnt<=k+nu.length/\ -(2147483648*((k:Int)+nu.length))<=(nu.foldl (qW c s) a).sum/\(nu.foldl (qW c s) a).sum<=2147483648*((k:Int)+nu.length)
 |[],a,k,_,h=>by simp;omega
 |x::r,a,k,b,h=>by
  have d:=b x (by simp);unfold Nm.ok at d;have:=XY c s r (qW c s a x) (k+1) (fun y e=>b y (by simp[e])) (by
   unfold qW;split
   ·simp only[Zn];omega
   ·omega)
  rw[List.foldl_cons,List.length_cons];omega
theorem kM(h:∀x∈nu,x.ok):0<=(xy c s nu).cnt/\(xy c s nu).cnt<=nu.length/\ -(2147483648*(nu.length:Int))<=(xy c s nu).sum/\(xy c s nu).sum<=2147483648*(nu.length:Int):=by
 have:=XY c s nu ⟨0,0,0,0⟩ 0 h (by simp);simpa[xy]using this
theorem Qx{c:Cf}{nu:List Nm}{rc:List Sg}(h:∀x∈nu,x.ok):∀(l:List Sg) (u:Int),0<=u->0<=l.foldl (fun n s=>n+ZG c nu rc s) u/\l.foldl (fun n s=>n+ZG c nu rc s) u<=u+l.length*(nu.length+2)
 |[],u,a=>by simp;exact a
 |s::r,u,a=>by
  have d:=kM (c:=c) (s:=s) h;have b:0<=ZG c nu rc s/\ZG c nu rc s<=nu.length+2:=by
   unfold ZG;split
   ·omega
   ·split<;>omega
  have:=Qx (c:=c) (rc:=rc) h r (u+ZG c nu rc s) (by omega);have e:((s::r).length:Int)*(nu.length+2)=r.length*(nu.length+2)+(nu.length+2):=by
   rw[List.length_cons];push_cast;rw[Int.add_mul];omega
  rw[List.foldl_cons,e];omega
variable {rc:List Sg}
theorem zcv(h:∀x∈nu,x.ok):0<=vX c nu rc l/\vX c nu rc l<=l.length*(nu.length+2):=by
 have:=Qx (c:=c) (rc:=rc) h l 0 (by omega);unfold vX;omega
theorem xd{t:TypeId}(h:w.1[g]?=G (.cells cs t fr))(i:Nat):w.cell? (U g i)=cs[i]?:=by simp[World.cell?,h]
def cF(w:z9)(g:Nat):List Nat->List zb->Prop
 |i::l,v::r=>w.cell? (U g i)=G v/\cF w g l r
 |_,_=>True
theorem zph{w:z9}{g:Nat}{cs:Array zb}{t:TypeId}{fr:Nat×Nat}(h:w.1[g]?=G (.cells cs t fr)):∀(m n:Nat) (l:List zb),(∀i,l[i]?=cs[n+i]?)->cF w g (List.range' n m) l
 |0,_,_,_=>by simp[List.range',cF]
 |m+1,n,[],_=>by simp[List.range',cF]
 |m+1,n,v::r,a=>by
  rw[List.range'_succ];refine⟨?_,zph h m (n+1) r (fun i=>?_)⟩
  ·rw[xd h];have:=a 0;simpa using this.symm
  ·have:=a (i+1);rw[show n+1+i=n+(i+1) by omega,<-this];simp
theorem zc{t:TypeId}(h:w.1[g]?=G (.cells cs t fr)):cF w g [0,1,2,3,4,5,6,7,8,9,10,11,12,13,14] cs.toList:=zph h 15 0 cs.toList (fun i=>by simp)
theorem zI{t:TypeId}(h:w.1[g]?=G (.cells cs t (0,0)))(i:Nat):w.frozen? (U g i)=false:=by simp[World.frozen?,h]
theorem zo(w:z9)(o:Obj):(w.alloc o).1[w.1.size]?=G o:=heap_alloc_last w o
theorem zE(w:z9)(o:Obj):(w.alloc o).1.size=w.1.size+1:=by simp
theorem xC{α:Type}{l:List α}(h:i<l.length):∃a,l[i]?=G a:=⟨_,List.getElem?_eq_getElem h⟩
theorem zdN{e:TypeId}(h:w.ownsRow B e 3 v l.length (l.flatMap sgV)){x:Sg}(a:l[i]?=G x):
  ∃g cap,v=.slice (G (U g 0)) l.length cap/\B<=g/\g<w.1.size/\w.cell? (U g (i*3))=G (I x.t)/\w.cell? (U g (i*3+1))=G (I x.se)/\w.cell? (U g (i*3+2))=G (I x.we):=by
 have d:i<l.length:=(List.getElem?_eq_some_iff.1 a).1;obtain⟨g,cap,hv,c,b⟩:=h.form (by omega);rw[hv]at h;refine⟨g,cap,hv,c,b,?_,?_,?_⟩
 ·rw[h.cellAt _ (by omega)];exact qs (f:=sgV) zdM l i x 0 a (by omega)
 ·rw[h.cellAt _ (by omega)];exact qs (f:=sgV) zdM l i x 1 a (by omega)
 ·rw[h.cellAt _ (by omega)];exact qs (f:=sgV) zdM l i x 2 a (by omega)
variable {x:Nm}
theorem zpE{e:TypeId}{l:List Nm}(h:w.ownsRow B e 3 v l.length (l.flatMap nmV))(a:l[i]?=G x):
  ∃g cap,v=.slice (G (U g 0)) l.length cap/\B<=g/\g<w.1.size/\w.cell? (U g (i*3))=G (I x.se)/\w.cell? (U g (i*3+1))=G (I x.tm)/\w.cell? (U g (i*3+2))=G (i_ x.val):=by
 have d:i<l.length:=(List.getElem?_eq_some_iff.1 a).1;obtain⟨g,cap,hv,c,b⟩:=h.form (by omega);rw[hv]at h;refine⟨g,cap,hv,c,b,?_,?_,?_⟩
 ·rw[h.cellAt _ (by omega)];exact qs (f:=nmV) zdt l i x 0 a (by omega)
 ·rw[h.cellAt _ (by omega)];exact qs (f:=nmV) zdt l i x 1 a (by omega)
 ·rw[h.cellAt _ (by omega)];exact qs (f:=nmV) zdt l i x 2 a (by omega)
theorem zq{e:TypeId}(h:w.ownsRow B e size v n xs):∃a cap,v=.slice a n cap:=by
 rcases h.2 with⟨b,c⟩|⟨g,cap,_,b,_⟩
 ·exact⟨zl,0,by rw[b,c]⟩
 ·exact⟨_,cap,b⟩
theorem zY{e:TypeId}(h:w.ownsRow B e size v n xs)(a:B_ w w'):w'.ownsRow B e size v n xs:=
 zi h (zj.of_below (f:=fun _=>False) a) (fun _ _ b=>b)
def vl(s:Sg):zb:=.agg #[I s.t,I s.se,I s.we]
theorem zot{x:Sg}(h:¬x=s):(x.t==s.t)=false\/((x.t==s.t)=true/\(x.se==s.se)=false)\/((x.t==s.t)=true/\(x.se==s.se)=true/\(x.we==s.we)=false):=by
 by_cases a:x.t=s.t
 ·by_cases b:x.se=s.se
  ·by_cases c:x.we=s.we
   ·exact absurd (by cases x;cases s;simp_all) h
   ·exact .inr (.inr (by simp[a,b,c]))
  ·exact .inr (.inl (by simp[a,b]))
 ·exact .inl (by simp[a])
def jX(s:Sg)(l:List Sg):Bool:=decide (s∈l)
theorem vQ(h:s∈l):jX s l=true:=by simp[jX,h]
theorem QS(h:¬s∈l):jX s l=false:=by simp[jX,h]
theorem zgh(h:∀j x,j<l.length->l[j]?=G x->x≠s):¬s∈l:=fun b=>by
 obtain⟨j,a⟩:=List.getElem?_of_mem b;exact h j s (List.getElem?_eq_some_iff.1 a).1 a rfl
theorem qq(B:Nat)(l:List Sg)(v:zb)(s:Sg)(w:z9)(W:l.length<=1099511627776)(h:w.ownsRow B 287 3 v l.length (l.flatMap sgV)):
  Calls prog 218 #[v,.agg #[I s.t,I s.se,I s.we]] w (Rz w (.bool (jX s l))):=by
 obtain⟨a,cap,hv⟩:=zq h;subst hv;go_in;go_wp2_with fail;go_loopw [5] (fun y wr=>∃(k:Nat),k<=l.length/\y=I k/\(∀j x,j<k->l[j]?=G x->x≠s)/\zg (w.1.size+1) (w.alloc (.cells #[I s.t,I s.se,I s.we] 287)) wr) (fun y _=>l.length-(intOf y).toNat);case atStart=>exact⟨0,zp _,rfl,fun j x E=>absurd E (Nat.not_lt_zero _),zf _ _⟩
 case round=>
  obtain⟨k,V,rfl,N,A⟩:=hrel;have J:=ze N;clear N;have m:B_ w wr:=((zf _ _).alloc (za _) _).trans (A.mono (by omega));have R:w.1.size<wr.1.size:=by have:=A.size;simp at this;omega
  have i:=(A.block w.1.size (by omega)).trans (zo w _);obtain⟨X,Y,Z,-⟩:=zc i;clear i;by_cases F:k<l.length
  ·have M:=zY h m;obtain⟨x,z⟩:=xC F;obtain⟨g,L,hv,_,P,S,T,U⟩:=zdN M z;cases hv;have K:=ze z;have Q:(k:Int)<l.length:=(by omega);clear z h M;have r:Nonempty (zm wr.1.size wr):=zm.some _ _;have q:=fun(u:zm wr.1.size wr) b o h=>u.cell b o h;by_cases f:x=s
   ·subst f;go_wp2_with fail;refine zh wr.1.size (by kernel_rfl) (by kernel_rfl) ?_;repeat(go_big_quiet_step (fail))
    refine wpQuiet_nil ?_;rintro⟨w1,c⟩;clear q r;dsimp only;go_wp2_with fail;go_ret;exact⟨zQ (vQ (List.mem_of_getElem? K)).symm,m.trans (c.mono (by omega))⟩
   ·have d:∀(w1:z9),B_ wr w1->∃(H:Nat),H<=l.length/\I ((k:Int)+1)=I H/\(∀j x,j<H->l[j]?=G x->x≠s)/\zg (w.1.size+1) (w.alloc (.cells #[I s.t,I s.se,I s.we] 287)) w1:=fun w1 c=>by
     refine⟨k+1,by omega,by go_num,fun j y E n=>?_,A.trans (c.mono (by omega))⟩;by_cases e:j=k
     ·subst e;rw[ud K]at n;cases n;exact f
     ·exact ud J j y (by omega) n
    have p:=ze d;clear d;have C:=zot f;clear f;rcases C with C|⟨D,C⟩|⟨D,O,C⟩;all_goals
     go_wp2_with fail
     refine zh wr.1.size (by kernel_rfl) (by kernel_rfl) ?_
     repeat(go_big_quiet_step (fail))
     refine wpQuiet_nil ?_
     rintro⟨w1,c⟩
     clear q r
     dsimp only
     go_wp2_with fail
     go_roundw
     case rel=>exact ud p w1 c
     case measure=>simp[intOf];omega
  ·go_wp2_with fail;go_ret;exact⟨zQ (QS (zgh (fun j x E z=>ud J j x (by omega) z))).symm,m⟩
theorem Qq(w:z9)(r E F d:TypeId)(n:Nat)(g a f:Nat)(q:Option Addr)(b l:Nat)(c:Array zb)(t:TypeId)(cs:List zb)(z:P.underlying r=G (.slice d))(y:(P.info? d).map (·.size)=G n)(s:w.1[g]?=G (.cells c t (0,0)))(hn:cs.length=Nat.min b a*n)(k:0<cs.length->∃ad,q=G ad/\∀j v,cs[j]?=G v->w.cell? (ad.add j)=G v)(h:cs.length<=c.size)(B:∀v∈cs,v.oneCell'=true):
  (Builtin.copy_ #[r,E] F #[.slice (G (U g 0)) a f,.slice q b l]).run P w=.ok (goInt (Nat.min b a)) (w.setRow g (cs++c.toList.drop cs.length).toArray):=by
 have p:=run_storeCells_at P g 0 t cs 0 c w s (by simpa using h) B;cases m:P.info? d with
 |none=>simp[m]at y
 |some i=>
  have u:i.size=n:=by simpa[m]using y
  by_cases A:cs.length=0
  ·obtain rfl:cs=[]:=List.eq_nil_of_length_eq_zero A;have D:Nat.min b a*n=0:=(by simpa using hn.symm);have o:∀(x:Addr),(loadCells x 0).run P w=.ok #[] w:=fun x=> (by simpa using run_loadCells_list (P:=P) w x [] (by simp));have e:=setRow_self w g c t (0,0) s;cases q<;>simp[Builtin.copy_,run_underlying z,Builtin.lenOf,Builtin.firstCells,sizeOf,typeInfo,m,u,D,storeCells,o,e]
  ·obtain⟨ad,rfl,C⟩:=k (by omega);have o:=run_loadCells_list (P:=P) w ad cs C;simp[Builtin.copy_,run_underlying z,Builtin.lenOf,Builtin.firstCells,sizeOf,typeInfo,m,u,<-hn,o,p]
def XX(F W K:Nat->Int)(j:Nat):zb:=if j%3=0 then I (F (j/3))else if j%3=1 then I (W (j/3))else I (K (j/3))
theorem zcS(F W K:Nat->Int)(i:Nat):XX F W K (i*3)=I (F i):=by
 unfold XX;rw[if_pos (by omega),show i*3/3=i by omega]
theorem zcT(F W K:Nat->Int)(i:Nat):XX F W K (i*3+1)=I (W i):=by
 unfold XX;rw[if_neg (by omega),if_pos (by omega),show(i*3+1)/3=i by omega]
theorem zcU(F W K:Nat->Int)(i:Nat):XX F W K (i*3+2)=I (K i):=by
 unfold XX;rw[if_neg (by omega),if_neg (by omega),show(i*3+2)/3=i by omega]
def Qp(n:Nat)(F W K:Nat->Int):List zb:=(List.range (n*3)).map (XX F W K)
theorem xv(n:Nat)(F W K:Nat->Int):(Qp n F W K).length=n*3:=by simp[Qp]
theorem YR(n:Nat)(F W K:Nat->Int)(j:Nat)(h:j<n*3):(Qp n F W K)[j]?=G (XX F W K j):=by simp[Qp,h]
theorem zaC(n:Nat)(F W K:Nat->Int):∀v∈Qp n F W K,v.oneCell'=true:=by
 intro v hv;simp only[Qp,List.mem_map]at hv;obtain⟨j,_,rfl⟩:=hv;unfold XX;split
 ·rfl
 ·split<;>rfl
structure zR(B:Nat)(w:z9)(p:Nat)(m:RM)(tv nv pv gv kv:zb):Prop where
 head:w.1[p]?=G (.cells #[I m.c.s,I m.c.le,I m.c.la,I m.c.wi,I m.c.ke,I m.c.qu,tv,I m.now,nv,pv,gv,kv,I m.epoch,I m.picks] 228 (0,0))
 base:B<=p
 trow:w.ownsRow B 80 3 tv m.c.n (Qp m.c.n m.c.F m.c.W m.c.K)
 nrow:w.ownsRow B 319 3 nv m.nu.length (m.nu.flatMap nmV)
 prow:w.ownsRow B 287 3 pv m.pub.length (m.pub.flatMap sgV)
 grow:w.ownsRow B 287 3 gv m.gone.length (m.gone.flatMap sgV)
 krow:w.ownsRow B 294 11 kv m.tg.length (m.tg.flatMap tkV)
section
variable {B:Nat} {w:z9} {p:Nat} {m:RM} {tv nv pv gv kv:zb}
def jI(p:Nat)(tv nv pv gv kv:zb)(k:Nat):Prop:=k=p\/tv.ownBlock=G k\/nv.ownBlock=G k\/pv.ownBlock=G k\/gv.ownBlock=G k\/kv.ownBlock=G k
theorem zR.kept(h:zR B w p m tv nv pv gv kv)(b:zj f w w')(hn:∀k,jI p tv nv pv gv kv k->¬f k):zR B w' p m tv nv pv gv kv:=
 ⟨b.heap h.head (hn p (.inl rfl)),h.base,zi h.trow b (fun k a=>hn k (.inr (.inl a))),zi h.nrow b (fun k a=>hn k (.inr (.inr (.inl a)))),zi h.prow b (fun k a=>hn k (.inr (.inr (.inr (.inl a))))),zi h.grow b (fun k a=>hn k (.inr (.inr (.inr (.inr (.inl a)))))),zi h.krow b (fun k a=>hn k (.inr (.inr (.inr (.inr (.inr a))))))⟩
theorem zR.later(h:zR B w p m tv nv pv gv kv)(a:B_ w w'):zR B w' p m tv nv pv gv kv:=
 h.kept (f:=fun _=>False) (zj.of_below a) (fun _ _ b=>b)
theorem zR.lt(h:zR B w p m tv nv pv gv kv):p<w.1.size:=zd h.head
theorem zR.conf(h:zR B w p m tv nv pv gv kv):w.cell? (U p 0)=G (I m.c.s)/\w.cell? (U p 1)=G (I m.c.le)/\w.cell? (U p 2)=G (I m.c.la)/\w.cell? (U p 3)=G (I m.c.wi)/\w.cell? (U p 4)=G (I m.c.ke)/\w.cell? (U p 5)=G (I m.c.qu)/\w.cell? (U p 6)=G tv:=by
 refine⟨?_,?_,?_,?_,?_,?_,?_⟩<;>rw[xd h.head]<;>rfl
theorem zR.rest(h:zR B w p m tv nv pv gv kv):w.cell? (U p 7)=G (I m.now)/\w.cell? (U p 8)=G nv/\w.cell? (U p 9)=G pv/\w.cell? (U p 10)=G gv/\w.cell? (U p 11)=G kv/\w.cell? (U p 12)=G (I m.epoch)/\w.cell? (U p 13)=G (I m.picks):=by
 refine⟨?_,?_,?_,?_,?_,?_,?_⟩<;>rw[xd h.head]<;>rfl
end
theorem TS.of_owns{e:TypeId}(h:w.ownsRow B e 3 (.slice a n cap) n (Qp n F W K)):TS w a n F W K:=fun k=>by
 obtain⟨g,d,hv,l,c⟩:=h.form k;cases hv;refine⟨g,0,rfl,c,fun i m=>?_⟩;have e:∀j,j<n*3->w.cell? (U g j)=G (XX F W K j):=fun j f=>by
  rw[h.cellAt _ f,YR n F W K j f]
 refine⟨?_,?_,?_⟩
 ·rw[e _ (by omega)];simp[XX]
 ·have b:(i*3+1)/3=i:=by omega
  rw[e _ (by omega)];simp[XX,Nat.add_mod,b]
 ·have b:(i*3+2)/3=i:=by omega
  rw[e _ (by omega)];simp[XX,Nat.add_mod,b]
theorem box2(w:z9)(a b:Obj):((w.alloc a).alloc b).1[w.1.size]?=G a/\((w.alloc a).alloc b).1[w.1.size+1]?=G b/\B_ w ((w.alloc a).alloc b)/\((w.alloc a).alloc b).1.size=w.1.size+2:=by
 refine⟨(Below.heap_alloc _ _ _ (by simp)).trans (zo _ _),by have:=zo (w.alloc a) b;rw[zE]at this;exact this,((zf _ _).alloc (za _) _).alloc (by simp) _,by simp⟩
theorem xq{t:TypeId}(h:w.1[g]?=G (.cells cs t fr))(v:zb):(w.setCell (U g i) v).1[g]?=G (.cells (cs.setIfInBounds i v) t fr):=by
 rw[setCell_eq_setRow w g i cs t fr v h];exact setRow_heap w g _ _ t _ h
theorem set3{a b c:zb}{t:TypeId}(h:w.1[g]?=G (.cells #[a,b,c] t fr))(x y z:zb):((((w.setCell (U g 0) x).setCell (U g 1) y).setCell (U g 2) z).drew).1[g]?=G (.cells #[x,y,z] t fr):=by
 have:=xq (i:=2) (xq (i:=1) (xq (i:=0) h x) y) z;exact this
theorem zpK{a b c a' b' d:Int}(e:a=a')(f:b=b')(g:c=d):Ending.returned (.agg #[I a,I b,I c])=.returned (.agg #[I a',I b',I d]):=by rw[e,f,g]
variable {m:RM}
theorem XH(h:zR B w p m tv nv pv gv kv)(D:m.c.ok)(t:Int)(f: -1<=t)(g:t<m.c.n)(x:Nm)(P:x.ok):
  Calls prog 247 #[(O p),I t,.agg #[I x.se,I x.tm,i_ x.val]] w (Rz w (.agg #[I (zT m.c t x).t,I (zT m.c t x).se,I (zT m.c t x).we])):=by
 obtain⟨a,cap,s⟩:=zq h.trow;subst s;have hp:=h.lt;have r:=TS.of_owns h.trow;obtain⟨Y,Z,c2,c3,c4,c5,c6⟩:=h.conf;obtain⟨M,N⟩:=D.wh f g;have q:=D.n4;obtain⟨Q,R,S,T,V,X⟩:=P;have J:Hid (xp m.c.wi m.c.W t=m.c.wh t):=rfl;have HR:Hid ((zT m.c t x).we=x.tm/m.c.wh t):=rfl;have k:Hid ((zT m.c t x).t=t):=rfl;have l:Hid ((zT m.c t x).se=x.se):=rfl;obtain⟨y,z,d,A⟩:=box2 w (.cells #[I x.se,I x.tm,i_ x.val] 319) (.cells #[I 0,I 0,I 0] 287);have E:=ze y;have B2:=ze z;have u:=ze A;clear h y z A;go_in;go_wp2_with(go_at_call 138;refine(jB _ _ _ _ _ _ _ _ cap m.c.F m.c.W m.c.K t f g q _ (r.below d)).mono ?_;rintro e w1 ⟨rfl,b⟩;rw[ud J]);have C:=(b.block w.1.size (by rw[ud u];omega)).trans E;have i:=(b.block (w.1.size+1) (by rw[ud u];omega)).trans B2;obtain⟨z0,z1,-⟩:=zc C;obtain⟨y0,y1,y2,-⟩:=zc i;have y3:=fun j=>zI i j;have H:=ze i;clear C i;go_region
 go_wp2_with fail;have L:=set3 H (I t) (I x.se) (I (x.tm/m.c.wh t));have o:zg w.1.size w1 ((((w1.setCell (U (w.1.size+1) 0) (I t)).setCell (U (w.1.size+1) 1) (I x.se)).setCell (U (w.1.size+1) 2) (I (x.tm/m.c.wh t))).drew):=((((zf _ _).setCell (p:=(U (w.1.size+1) 0)) (show w.1.size<=w.1.size+1 by omega) _).setCell (p:=(U (w.1.size+1) 1)) (show w.1.size<=w.1.size+1 by omega) _).setCell (p:=(U (w.1.size+1) 2)) (show w.1.size<=w.1.size+1 by omega) _).drew;refine bodyPost_ret (v:=.agg #[I t,I x.se,I (x.tm/m.c.wh t)]) (results_cell_row results247 _ _ (w.1.size+1) _ _ _ _ rfl L underlying287 rfl (by kernel_rfl)) rfl ?_;exact⟨zpK k.symm l.symm HR.symm,d.trans ((b.mono d.size).trans o)⟩
def Cf.end(c:Cf)(s:Sg):Int:=(s.we+1)*c.wh s.t
def Cf.keep(c:Cf)(t:Int):Int:=if t= -1 then c.ke else c.K t.toNat
theorem Cf.ok.ends(h:c.ok)(a: -1<=s.t)(b:s.t<c.n)(d:0<=s.we)(e:s.we<=100000):0<=c.end s/\c.end s<=100001000:=by
 obtain⟨w1,w2⟩:=h.wh a b;unfold Cf.end;refine⟨Int.mul_nonneg (by omega) (by omega),?_⟩;have:(s.we+1)*c.wh s.t<=(100000+1)*1000:=Int.mul_le_mul (by omega) w2 (by omega) (by omega);omega
theorem Cf.ok.keeps(h:c.ok)(a: -1<=t)(b:t<c.n):0<=c.keep t/\c.keep t<=1000:=by
 unfold Cf.keep;split
 ·exact h.ke
 ·exact h.K _ (by omega)
theorem JO(h:zR B w p m tv nv pv gv kv)(i:m.c.ok)(s:Sg)(d: -1<=s.t)(e:s.t<m.c.n)(v:0<=s.we)(x:s.we<=100000):
  Calls prog 216 #[(O p),.agg #[I s.t,I s.se,I s.we]] w (Rz w (I (m.c.end s))):=by
 obtain⟨a,cap,z⟩:=zq h.trow;subst z;have X:=h.lt;have y:=TS.of_owns h.trow;obtain⟨N,P,Q,R,S,T,V⟩:=h.conf;obtain⟨J,L⟩:=i.wh d e;obtain⟨j,k⟩:=i.ends d e v x;have q:=i.n4;have E:Hid (xp m.c.wi m.c.W s.t=m.c.wh s.t):=rfl;have HR:Hid (m.c.end s=(s.we+1)*m.c.wh s.t):=rfl;rw[ud HR]at j k;have C:=zo w (.cells #[I s.t,I s.se,I s.we] 287);have D:=zE w (.cells #[I s.t,I s.se,I s.we] 287);have g:B_ w (w.alloc (.cells #[I s.t,I s.se,I s.we] 287)):=(zf _ _).alloc (za _) _;obtain⟨-,-,A,-⟩:=zc C;have H:=ze A;have M:=ze D;have r:Nonempty (zm (w.1.size+1) (w.alloc (.cells #[I s.t,I s.se,I s.we] 287))):=zm.some _ _;have l:=fun(u:zm (w.1.size+1) (w.alloc (.cells #[I s.t,I s.se,I s.we] 287))) b o h=>u.cell b o h;clear h C D A;go_in;go_wp2_with fail;refine zh (w.1.size+1) (by kernel_rfl) (by kernel_rfl) ?_;repeat(go_big_quiet_step (first|(go_at_call 138;exact Calls.later (by simp) (jB _ _ _ _ _ _ _ _ cap m.c.F m.c.W m.c.K s.t d e q _ (y.below (g.trans (Below.mono (Subtype.property _) (by omega))))))))
 refine wpQuiet_nil ?_;rintro⟨w1,f⟩;clear l r;have A:Cz w1 w.1.size 2 (I s.we):=(f.cell (p:=(U w.1.size 2)) (show w.1.size<w.1.size+1 by omega)).trans H;dsimp only;rw[ud E];go_wp2_with fail;go_ret;exact⟨ZB HR.symm,g.trans (f.mono (by omega))⟩
theorem zab(h:zR B w p m tv nv pv gv kv)(k:m.c.ok)(t:Int)(q: -1<=t)(r:t<m.c.n):
  Calls prog 300 #[(O p),I t] w fun e w'=>e=.returned (I (m.c.keep t))/\w'=w:=by
 obtain⟨a,cap,g⟩:=zq h.trow;subst g;have F:=h.lt;have f:=TS.of_owns h.trow;obtain⟨s,u,v,x,y,z,A⟩:=h.conf;have l:=k.n4;by_cases e:t= -1
 ·subst e;have HR:Hid (m.c.keep (-1)=m.c.ke):=rfl;clear h;go_in;go_wp2;go_ret;exact⟨ZB HR.symm,rfl⟩
 ·obtain⟨i,rfl⟩:=Int.eq_ofNat_of_zero_le (show 0<=t by omega);have HR:Hid (m.c.keep (i:Int)=m.c.K i):=by show _=_;unfold Cf.keep;rw[if_neg e];simp
  obtain⟨b,off,rfl,j,d⟩:=f (by omega);obtain⟨C,D,E⟩:=d i (by omega);have o:((i:Int)== -1)=false:=beq_eq_false_iff_ne.2 e;clear h d e;go_in;go_wp2;go_ret;exact⟨ZB HR.symm,rfl⟩
theorem box3(w:z9)(a b c:Obj):(((w.alloc a).alloc b).alloc c).1[w.1.size]?=G a/\(((w.alloc a).alloc b).alloc c).1[w.1.size+1]?=G b/\(((w.alloc a).alloc b).alloc c).1[w.1.size+2]?=G c/\B_ w (((w.alloc a).alloc b).alloc c)/\(((w.alloc a).alloc b).alloc c).1.size=w.1.size+3:=by
 obtain⟨f,g,e,d⟩:=box2 w a b;refine⟨(Below.heap_alloc _ _ _ (by rw[d];omega)).trans f,(Below.heap_alloc _ _ _ (by rw[d];omega)).trans g,by have:=zo ((w.alloc a).alloc b) c;rw[d]at this;exact this,e.alloc e.size _,by rw[zE,d]⟩
theorem qC{a:z9}(h:zg n a w)(b:n<=g):zg n a (w.setCell (U g i) v):=h.setCell (p:=(U g i)) b v
variable {A:Cl}
theorem zka(h:zT c s.t x=s):qW c s A x=Zn A x.val:=by simp[qW,h]
theorem zgZ(h:¬zT c s.t x=s):qW c s A x=A:=by simp[qW,h]
theorem zhw{v:Int}(h:A.cnt=0):Zn A v=⟨A.cnt+1,A.sum+v,v,v⟩:=by simp[Zn,h]
theorem zpb{v:Int}(h:¬A.cnt=0)(a:v<A.mn)(b:A.mx<v):Zn A v=⟨A.cnt+1,A.sum+v,v,v⟩:=by simp[Zn,a,b]
theorem zpc{v:Int}(h:¬A.cnt=0)(a:v<A.mn)(b:¬A.mx<v):Zn A v=⟨A.cnt+1,A.sum+v,v,A.mx⟩:=by simp[Zn,h,a,b]
theorem zpd{v:Int}(h:¬A.cnt=0)(a:¬v<A.mn)(b:A.mx<v):Zn A v=⟨A.cnt+1,A.sum+v,A.mn,v⟩:=by simp[Zn,h,a,b]
theorem zpe{v:Int}(h:¬A.cnt=0)(a:¬v<A.mn)(b:¬A.mx<v):Zn A v=⟨A.cnt+1,A.sum+v,A.mn,A.mx⟩:=by simp[Zn,h,a,b]
theorem zor{a b c d:zb}{t:TypeId}(h:w.1[g]?=G (.cells #[a,b,c,d] t fr))(x y z u:zb):((((w.setCell (U g 0) x).setCell (U g 1) y).setCell (U g 2) z).setCell (U g 3) u).1[g]?=G (.cells #[x,y,z,u] t fr):=
 xq (i:=3) (xq (i:=2) (xq (i:=1) (xq (i:=0) h x) y) z) u
def JJ(A:Cl):Obj:=.cells #[I A.cnt,I A.sum,i_ A.mn,i_ A.mx] 115 (0,0)
theorem zpi(h:w.1[g]?=G (JJ A))(c s a b:Int):((((w.setCell (U g 2) (i_ a)).setCell (U g 3) (i_ b)).setCell (U g 0) (I c)).setCell (U g 1) (I s)).1[g]?=G (JJ ⟨c,s,a,b⟩):=
 xq (i:=1) (xq (i:=0) (xq (i:=3) (xq (i:=2) h (i_ a)) (i_ b)) (I c)) (I s)
theorem cl_2(h:w.1[g]?=G (JJ A))(c s a:Int):(((w.setCell (U g 2) (i_ a)).setCell (U g 0) (I c)).setCell (U g 1) (I s)).1[g]?=G (JJ ⟨c,s,a,A.mx⟩):=
 xq (i:=1) (xq (i:=0) (xq (i:=2) h (i_ a)) (I c)) (I s)
theorem cl_3(h:w.1[g]?=G (JJ A))(c s b:Int):(((w.setCell (U g 3) (i_ b)).setCell (U g 0) (I c)).setCell (U g 1) (I s)).1[g]?=G (JJ ⟨c,s,A.mn,b⟩):=
 xq (i:=1) (xq (i:=0) (xq (i:=3) h (i_ b)) (I c)) (I s)
theorem cl_0(h:w.1[g]?=G (JJ A))(c s:Int):((w.setCell (U g 0) (I c)).setCell (U g 1) (I s)).1[g]?=G (JJ ⟨c,s,A.mn,A.mx⟩):=
 xq (i:=1) (xq (i:=0) h (I c)) (I s)
theorem zej(h:zR B w p m tv nv pv gv kv)(hc:m.c.ok)(aj:m.nu.length<=1000000000)(L:∀x∈m.nu,x.ok)(s:Sg)(a8: -1<=s.t)(a9:s.t<m.c.n):
  Calls prog 217 #[(O p),.agg #[I s.t,I s.se,I s.we]] w (Rz w (.agg #[I (xy m.c s m.nu).cnt,I (xy m.c s m.nu).sum,i_ (xy m.c s m.nu).mn,i_ (xy m.c s m.nu).mx])):=by
 obtain⟨b1,b2,b3,Y,bz⟩:=box3 w (.cells #[I s.t,I s.se,I s.we] 287) kq kq;have B1:=ze b1;have B2:=ze b2;have B3:=ze b3;have BZ:=ze bz;have H:=ze h;obtain⟨an,cn,a7⟩:=zq h.nrow;subst a7;clear h b1 b2 b3 bz;go_in;go_wp2_with fail;generalize hW:(((w.alloc (.cells #[I s.t,I s.se,I s.we] 287)).alloc kq).alloc kq)=W at*;go_loopw [6,7,8] (fun y _ _ wr=>∃(k:Nat),k<=m.nu.length/\y=I k/\wr.1[w.1.size+2]?=G (JJ (xy m.c s (m.nu.take k)))/\zg (w.1.size+2) W wr) (fun y _ _ _=>m.nu.length-(intOf y).toNat);case atStart=>exact⟨0,zp _,rfl,B3,zf _ _⟩
 case round=>
  obtain⟨k,hk,rfl,J,Q⟩:=hrel;have r:B_ w wr:=Y.trans (Q.mono (by omega));have S:=H.later r;have ak:=S.lt;obtain⟨r7,r8,r9,ac,ad,ae,af⟩:=S.rest;have am:w.1.size+2<wr.1.size:=by have:=Q.size;rw[ud BZ]at this;omega
  have ar:w.1.size<wr.1.size:=by omega
  have E:=ze S;have N:=ze Q;have X:=ze r;have al:=H.lt;clear S Q r r7 r9 ac ad ae af;by_cases a6:k<m.nu.length
  ·obtain⟨x,M⟩:=xC a6;have aa:=L x (List.mem_of_getElem? M);obtain⟨g,ag,hv,_,a0,x0,x1,x2⟩:=zpE E.nrow M;cases hv;have u:=K7 m.c s m.nu k x M;have K:=kM (c:=m.c) (s:=s) (nu:=m.nu.take k) (fun y hy=>L y (List.mem_of_mem_take hy));have ai:(k:Int)<m.nu.length:=(by omega);rw[List.length_take,Nat.min_eq_left hk]at K;generalize xy m.c s (m.nu.take k)=A at*;obtain⟨a1,a2,a3,a4⟩:=K;have HX:=ze M;have b:=ze u;have V:=ze J;obtain⟨o1,o2,o3,o4,o5,o6⟩:=aa;have D:B_ wr (wr.alloc (.cells #[I x.se,I x.tm,i_ x.val] 319)):=(zf _ _).alloc (za _) _;have z:=ze (XH (E.later D) hc s.t a8 a9 x ⟨o1,o2,o3,o4,o5,o6⟩);obtain⟨s0,-⟩:=zc (N.block w.1.size (by omega)|>.trans B1);clear M u J;go_wp2_with fail;refine z.mono ?_;rintro e w1 ⟨rfl,l⟩;have q:=N.block w.1.size (by omega)|>.trans B1;have q1:=(l.block w.1.size (by rw[zE];omega)).trans ((Below.heap_alloc _ _ _ (by omega)).trans q);have T:=(l.block (w.1.size+2) (by rw[zE];omega)).trans ((Below.heap_alloc _ _ _ (by omega)).trans V);have q3:=(l.block wr.1.size (by rw[zE];omega)).trans (zo _ _);have ao:wr.1.size<w1.1.size:=(by have:=l.size;rw[zE]at this;omega);have ap:w.1.size<w1.1.size:=(by omega);have aq:w.1.size+1+1<w1.1.size:=(by omega);obtain⟨t0,t1,t2,-⟩:=zc q1;obtain⟨-,-,n2,-⟩:=zc q3;obtain⟨d0,d1,d2,d3,-⟩:=zc T;have df:∀j,w1.frozen? (U (w.1.size+1+1) j)=false:=fun j=>zI T j;have i:=ze T;have d:=ze (show zg (w.1.size+2) W w1 from(ud N).trans ((D.mono (by omega)).trans (l.mono (by rw[zE];omega))));clear q q1 T q3 l s0 x0 x1 x2 D r8 a0;by_cases a:zT m.c s.t x=s
   ·have C:=ze (zka (A:=A) a);have hh:=a;clear z;rw[a];clear a hh;by_cases o:A.cnt=0
    ·have f:=ze (zhw (v:=x.val) o);have ab:(A.cnt==0)=true:=(by simp[o]);clear o;go_wp2_with fail;go_roundw;case rel=>
      refine⟨k+1,by omega,by go_num,?_,?_⟩
      ·rw[ud b,ud C,ud f];exact(Below.heap_alloc _ _ _ (by simp[World.setCell];omega)).trans (zpi i _ _ _ _)
      ·refine Below.alloc ?_ (by simp[World.setCell];omega) _;repeat(refine qC ?_ (show w.1.size+2<=w.1.size+1+1 by omega))
       exact d
     case measure=>simp[intOf];omega
    ·have ab:(A.cnt==0)=false:=(by simp[o]);by_cases P:x.val<A.mn
     ·by_cases F:A.mx<x.val
      ·have f:=ze (zpb (v:=x.val) o P F);clear o;go_wp2_with fail;go_roundw;case rel=>
        refine⟨k+1,by omega,by go_num,?_,?_⟩
        ·rw[ud b,ud C,ud f];exact(Below.heap_alloc _ _ _ (by simp[World.setCell];omega)).trans (zpi i _ _ _ _)
        ·refine Below.alloc ?_ (by simp[World.setCell];omega) _;repeat(refine qC ?_ (show w.1.size+2<=w.1.size+1+1 by omega))
         exact d
       case measure=>simp[intOf];omega
      ·have f:=ze (zpc (v:=x.val) o P F);clear o;go_wp2_with fail;go_roundw;case rel=>
        refine⟨k+1,by omega,by go_num,?_,?_⟩
        ·rw[ud b,ud C,ud f];exact(Below.heap_alloc _ _ _ (by simp[World.setCell];omega)).trans (cl_2 i _ _ _)
        ·refine Below.alloc ?_ (by simp[World.setCell];omega) _;repeat(refine qC ?_ (show w.1.size+2<=w.1.size+1+1 by omega))
         exact d
       case measure=>simp[intOf];omega
     ·by_cases F:A.mx<x.val
      ·have f:=ze (zpd (v:=x.val) o P F);clear o;go_wp2_with fail;go_roundw;case rel=>
        refine⟨k+1,by omega,by go_num,?_,?_⟩
        ·rw[ud b,ud C,ud f];exact(Below.heap_alloc _ _ _ (by simp[World.setCell];omega)).trans (cl_3 i _ _ _)
        ·refine Below.alloc ?_ (by simp[World.setCell];omega) _;repeat(refine qC ?_ (show w.1.size+2<=w.1.size+1+1 by omega))
         exact d
       case measure=>simp[intOf];omega
      ·have f:=ze (zpe (v:=x.val) o P F);clear o;go_wp2_with fail;go_roundw;case rel=>
        refine⟨k+1,by omega,by go_num,?_,?_⟩
        ·rw[ud b,ud C,ud f];exact(Below.heap_alloc _ _ _ (by simp[World.setCell];omega)).trans (cl_0 i _ _)
        ·refine Below.alloc ?_ (by simp[World.setCell];omega) _;repeat(refine qC ?_ (show w.1.size+2<=w.1.size+1+1 by omega))
         exact d
       case measure=>simp[intOf];omega
   ·have C:=ze (zgZ (A:=A) a);have R:=zot a;clear a;rcases R with R|⟨Z,R⟩|⟨Z,ah,R⟩;all_goals
     go_wp2_with fail
     go_roundw
     case rel=>exact⟨k+1,by omega,by go_num,by rw[ud b,ud C];exact(Below.heap_alloc _ _ _ (by omega)).trans i,d.alloc (by omega) _⟩
     case measure=>simp[intOf];omega
  ·have a5:k=m.nu.length:=(by omega);rw[a5,List.take_length]at J;obtain⟨d0,d1,d2,d3,-⟩:=zc J;have q:=N.block (w.1.size+1) (by omega)|>.trans B2;obtain⟨d4,d5,d6,d7,-⟩:=zc q;have df:∀j,wr.frozen? (U (w.1.size+1) j)=false:=fun j=>zI q j;have Q1:=ze q;clear q J;go_wp2_with fail;have hf:=zor Q1 (I (xy m.c s m.nu).cnt) (I (xy m.c s m.nu).sum) (i_ (xy m.c s m.nu).mn) (i_ (xy m.c s m.nu).mx);refine bodyPost_ret (v:=.agg #[I (xy m.c s m.nu).cnt,I (xy m.c s m.nu).sum,i_ (xy m.c s m.nu).mn,i_ (xy m.c s m.nu).mx]) (results_cell_row results217 _ _ (w.1.size+1) _ _ _ _ rfl hf underlying115 rfl (by kernel_rfl)) rfl ⟨rfl,?_⟩;refine X.trans ?_;repeat(refine qC ?_ (show w.1.size<=w.1.size+1 by omega))
   exact zf _ _
theorem Tryz.infoSegment:(prog.info? 287).map (fun i=>(i.zero,i.size,i.bytes))=G (G (.agg #[I 0,I 0,I 0]),3,24):=by kernel_rfl
theorem YL{α:Type}{f:α->List zb}{base:Nat}{e:TypeId}{l:List α}{a:α}(h:w.ownsRow base e k v (l.length+1) (l.flatMap f++f a)):w.ownsRow base e k v (l++[a]).length ((l++[a]).flatMap f):=by
 rw[Km,List.length_append];exact h
theorem zoi{ops:Array Oper}{rest:List Oper}{o:Oper}{a:Act}{Q:Exit->Act->z9->Prop}(i:o.guard=zl)(s x:Operand)(r:o.op=.call {callee:=.builtin .append,args:=#[s,x],argTypes:=#[225,225]})(base:Nat)(v:zb)(l:List Sg)(f:Sg)(y:a.eval s=v)(c:w.ownsRow base 287 3 v l.length (l.flatMap sgV))(d:Nat)(z:a.eval x=.slice (G (U d 0)) 1 1)(e:w.1[d]?=G (.cells #[I f.t,I f.se,I f.we] 287 (0,0)))(A:l.length<=1099511627776)(b:base<=w.1.size)(h:∀g cap w',w'.ownsRow base 287 3 (.slice (G (U g 0)) (l.length+1) cap) (l++[f]).length ((l++[f]).flatMap sgV)->w'.ownsRow base 287 3 v l.length (l.flatMap sgV)->w.grownBy w' v.ownBlock->(v.ownBlock=G g\/g=w.1.size)->g<w'.1.size->wpList prog ops Q rest (a.put o.dst (.slice (G (U g 0)) (l.length+1) cap)) w'):wpList prog ops Q (o::rest) a w:=
 zO i s x 225 r base 287 _ 3 24 underlying225 Tryz.infoSegment rfl (by decide) v l.length (l.flatMap sgV) y c (U d 0) 1 1 [I f.t,I f.se,I f.we] z rfl
  (World.news_of_block (cs:=#[I f.t,I f.se,I f.we]) e) (by intro u j;simp at j;rcases j with rfl|rfl|rfl<;>rfl) (by decide) (by simp only[maxLen];omega) (by omega) b
  fun g cap w' k m n p q=>h g cap w' (YL k) m n p q
theorem zkP(h:s∈l):Xq l s=l:=by simp[Xq,h]
theorem zhv(h:¬s∈l):Xq l s=l++[s]:=by simp[Xq,h]
theorem zaE(c:Cf)(t:Int)(nu:List Nm)(l:List Sg):qc c t (nu.take 0) l=l:=by simp[qc]
theorem vC(s:Sg)(l:List Sg):(jX s l=true/\s∈l)\/(jX s l=false/\¬s∈l):=by
 by_cases h:s∈l
 ·exact .inl ⟨vQ h,h⟩
 ·exact .inr ⟨QS h,h⟩
theorem jr(h:zR B w p m tv nv pv gv kv)(hc:m.c.ok)(a3:m.nu.length<=1000000000)(a4:∀x∈m.nu,x.ok):
  Calls prog 221 #[(O p)] w fun e w'=>∃v,e=.returned v/\w'.ownsRow w.1.size 287 3 v (zV m.c m.nu).length ((zV m.c m.nu).flatMap sgV)/\B_ w w':=by
 have H:=ze h;obtain⟨an,cn,a5⟩:=zq h.nrow;subst a5;obtain⟨at_,ct,a7⟩:=zq h.trow;subst a7;have aq:=hc.n4;have ar:=h.lt;clear h;go_in;go_wp2_with fail;go_loopw [3,4,5,6,7] (fun v y _ _ _ wr=>∃(k:Nat),k<=m.c.n+1/\y=I ((k:Int)-1)/\wr.ownsRow w.1.size 287 3 v (yW m.c m.nu k).length ((yW m.c m.nu k).flatMap sgV)/\B_ w wr) (fun _ y _ _ _ _=>m.c.n+1-(intOf y+1).toNat);case atStart=>exact⟨0,zp _,rfl,World.ownsRow_nil _ _ _ _,zf _ _⟩
 case round=>
  obtain⟨k,hk,rfl,hv,z⟩:=hrel;have j:=H.later z;have Q:=j.lt;obtain⟨c0,c1,c2,c3,c4,c5,c6⟩:=j.conf;clear c0 c1 c2 c3 c4 c5;by_cases ap:k<m.c.n+1
  ·have a2:(k:Int)-1<m.c.n:=(by omega);have Y: -1<=(k:Int)-1:=(by omega);obtain⟨a0,af,a8⟩:=zq hv;have F:=ze hv;have u:=ze z;clear j hv z;subst a8;go_wp2_with fail;go_loopw [3,5,6,7] (fun v y _ _ wq=>∃(i:Nat),i<=m.nu.length/\y=I i/\wq.ownsRow w.1.size 287 3 v (qc m.c ((k:Int)-1) (m.nu.take i) (yW m.c m.nu k)).length ((qc m.c ((k:Int)-1) (m.nu.take i) (yW m.c m.nu k)).flatMap sgV)/\B_ w wq) (fun _ y _ _ _=>m.nu.length-(intOf y).toNat);case atStart=>exact⟨0,zp _,rfl,by rw[zaE];exact ud F,u⟩
   case round=>
    clear F u c6 Q;obtain⟨i,hi,rfl,hv,z⟩:=hrel;have j:=H.later z;have Q:=j.lt;obtain⟨r7,r8,r9,aa,ab,ac,ad⟩:=j.rest;clear r7 r9 aa ab ac ad;obtain⟨a1,K,C⟩:=zq hv;have F:=ze hv;have u:=ze z;have aj:=ze j;by_cases X:i<m.nu.length
    ·obtain⟨x,U⟩:=xC X;have R:=a4 x (List.mem_of_getElem? U);obtain⟨g,ae,a9,_,am,x0,x1,x2⟩:=zpE j.nrow U;cases a9;have s:=zaD m.c ((k:Int)-1) m.nu (yW m.c m.nu k) i x U;have ak:(qc m.c ((k:Int)-1) (m.nu.take i) (yW m.c m.nu k)).length<=6000000000:=by
      have h1:=ZC m.c ((k:Int)-1) (m.nu.take i) (yW m.c m.nu k);have h2:=Y5 m.c m.nu k;have h3:k*m.nu.length<=5*1000000000:=Nat.mul_le_mul (by omega) a3;rw[List.length_take]at h1;omega
     have ao:(i:Int)<m.nu.length:=(by omega);have J:=ze (XH j hc ((k:Int)-1) Y a2 x R);have l:=ze s;subst C;generalize qc m.c ((k:Int)-1) (m.nu.take i) (yW m.c m.nu k)=L at*;clear U s R j hv z;go_wp2_with fail;refine J.mono ?_;rintro e w1 ⟨rfl,M⟩;generalize zT m.c ((k:Int)-1) x=d at*;have b:∀o,B_ wr (w1.alloc o):=fun o=>M.alloc M.size _;have A:=ze (qq w.1.size L _ d _ (by omega) (zY F (b (.cells #[I d.t,I d.se,I d.we] 287))));rcases vC d L with⟨N,r⟩|⟨N,r⟩
     ·rw[N]at A;have D:=ze (zkP r);clear N r;go_wp2_with fail;refine A.mono ?_;rintro e w2 ⟨rfl,f⟩;have S:=ze (u.trans (((b (.cells #[I d.t,I d.se,I d.we] 287)).trans (f.mono (b _).size)).mono u.size));have T:=ze (zY F ((b (.cells #[I d.t,I d.se,I d.we] 287)).trans (f.mono (b _).size)));go_wp2_with fail;go_roundw;case rel=>exact⟨i+1,by omega,by go_num,by rw[ud l,ud D];exact ud T,S⟩
      case measure=>simp[intOf];omega
     ·rw[N]at A;have D:=ze (zhv r);clear N r;go_wp2_with fail;refine A.mono ?_;rintro e w2 ⟨rfl,f⟩;have S:=ze (u.trans (((b (.cells #[I d.t,I d.se,I d.we] 287)).trans (f.mono (b _).size)).mono u.size));have T:=ze (zY F ((b (.cells #[I d.t,I d.se,I d.we] 287)).trans (f.mono (b _).size)));have q:=(f.block w1.1.size (by rw[zE];omega)).trans (zo _ _);obtain⟨z0,z1,z2,-⟩:=zc q;have a6:w.1.size<=w2.1.size:=S.size;clear q;go_wp2_with(first
       |(at_builtin;refine zoi rfl _ _ rfl w.1.size _ L d rfl (T.alloc _) w2.1.size rfl (zo _ _) ?hll ?hbb ?_;(case hll=>omega);(case hbb=>(rw[zE];omega));intro g2 ag w3 P ai E al ah)
       |fail)
      have V:B_ w w3:=((ud S).alloc a6 _).grown E (by simp;omega) (fun k hk=>(T.lt k hk).1);exact⟨⟨i+1,by omega,by go_num,by rw[ud l,ud D];exact P,V⟩,by simp[intOf];omega⟩
    ·have W:i=m.nu.length:=(by omega);have a:=hv;rw[W,List.take_length,<-Z4]at a;have a:=ze a;subst C;clear hv z j;go_wp2_with fail;go_roundw;case rel=>exact⟨k+1,by omega,by go_num,a,u⟩
     case measure=>simp[intOf];omega
  ·have Z:k=m.c.n+1:=(by omega);have a:=hv;rw[Z]at a;have a:=ze a;have u:=ze z;obtain⟨a1,K,C⟩:=zq hv;subst C;clear hv z j;go_wp2_with fail;go_ret;exact⟨_,rfl,a,u⟩
theorem jK(d:c.n<=4)(h:nu.length<=1000000000):(zV c nu).length<=5000000000:=by
 have a:=Y5 c nu (c.n+1);have b:(c.n+1)*nu.length<=5*1000000000:=Nat.mul_le_mul (by omega) h;unfold zV;omega
theorem Ya(d:l.length<=5000000000)(hn:nu.length<=1000000000)(h:∀x∈nu,x.ok):0<=vX c nu rc l/\vX c nu rc l<=6000000000000000000:=by
 have a:=zcv (c:=c) (nu:=nu) (rc:=rc) (l:=l) h;have b:(l.length:Int)*(nu.length+2)<=5000000000*1000000002:=Int.mul_le_mul (by omega) (by omega) (by omega) (by omega);omega
theorem zmB(h:s∈rc):ZG c nu rc s=0:=by simp[ZG,h]
theorem zoH(h:¬s∈rc)(a:s.t= -1):ZG c nu rc s=(xy c s nu).cnt:=by simp[ZG,h,a]
theorem zmC(h:¬s∈rc)(a:¬s.t= -1):ZG c nu rc s=2:=by simp[ZG,h,a]
theorem zjP(h:s∈zV c nu): -1<=s.t/\s.t<c.n:=by
 have:=kD.1 h;exact⟨this.1,this.2.1⟩
theorem zaR(h:zR B w p m tv nv pv gv kv)(hc:m.c.ok)(D:m.nu.length<=1000000000)(ao:m.gone.length<=1000000000000)(E:∀x∈m.nu,x.ok):
  Calls prog 219 #[(O p)] w (Rz w (I m.used)):=by
 have H:=ze h;have HS:=ze (jr h hc D E);have ar:=jK (nu:=m.nu) hc.n4 D;have HU:Hid (m.used=vX m.c m.nu m.gone (zV m.c m.nu)):=rfl;have HM:=ze (fun s T=>zjP (c:=m.c) (nu:=m.nu) (s:=s) T);obtain⟨ag,cg,a7⟩:=zq h.grow;subst a7;clear h;generalize zV m.c m.nu=L at*;go_in;go_wp2_with fail;refine HS.mono ?_;rintro e w0 ⟨v,rfl,P,X⟩;obtain⟨al,cl,ac⟩:=zq P;subst ac;have a4:=ze P;have V:=ze X;clear P X;go_wp2_with fail;go_loopw [3,5,6,7] (fun z y _ _ wr=>∃(i:Nat),i<=L.length/\y=I i/\z=I (vX m.c m.nu m.gone (L.take i))/\B_ w0 wr) (fun _ y _ _ _=>L.length-(intOf y).toNat);case atStart=>exact⟨0,zp _,rfl,by simp[vX],zf _ _⟩
 case round=>
  obtain⟨i,hi,rfl,rfl,hb⟩:=hrel;have K:B_ w wr:=V.trans (hb.mono V.size);have hr:=H.later K;have aq:=hr.lt;obtain⟨r7,r8,r9,au,ae,af,ah⟩:=hr.rest;clear r7 r8 r9 ae af ah;have R:=ze hb;have a3:=ze K;have W:=ze hr;have HV:=ze (zY a4 hb);clear hr K hb;by_cases a9:i<L.length
  ·obtain⟨s,T⟩:=xC a9;obtain⟨g,ai,ad,_,d,Q,x1,x2⟩:=zdN HV T;injection ad with a0 a1 a2;subst a0;have C:=zdX m.c m.nu m.gone L i s T;obtain⟨Y,Z⟩:=ud HM s (List.mem_of_getElem? T);have ap:(i:Int)<L.length:=(by omega);have ab:=Ya (c:=m.c) (rc:=m.gone) (l:=L.take i) (by rw[List.length_take];omega) D E;have a5:=kM (c:=m.c) (s:=s) (nu:=m.nu) E;obtain⟨am,an⟩:=ab;obtain⟨aj,ak,-⟩:=a5;have k:=ze C;clear T C a1 a2;generalize vX m.c m.nu m.gone (L.take i)=u at*;have N:Nonempty (zm wr.1.size wr):=zm.some _ _;have M:=fun(u:zm wr.1.size wr) b o h=>u.cell b o h;have r:=ze (fun(u:zm wr.1.size wr)=>qq B m.gone _ s u.1 (by omega) (W.later u.2).grow);have J:=ze (fun(w1:z9) (a:B_ wr w1)=>zej (W.later a) hc D E s Y Z);rcases vC s m.gone with⟨S,n⟩|⟨S,n⟩
   ·rw[S]at r;have q:=ze (zmB (c:=m.c) (nu:=m.nu) n);clear S n;go_wp2_with fail;refine zh wr.1.size (by kernel_rfl) (by kernel_rfl) ?_;repeat(go_big_quiet_step (first|(go_at_call 218;exact Calls.later (za _) (ud r _))))
    refine wpQuiet_nil ?_;rintro⟨w1,a⟩;clear M N;have z0:=(a.cell (p:=(U g (i*3))) d).trans Q;have z1:=(a.cell (p:=(U g (i*3+1))) d).trans x1;have z2:=(a.cell (p:=(U g (i*3+2))) d).trans x2;dsimp only;go_wp2_with fail;refine(ud J w1 a).mono ?_;rintro e w2 ⟨rfl,j⟩;have F:=ze (R.trans ((a.trans (j.mono a.size)).mono R.size));go_wp2_with fail;go_roundw;case rel=>exact⟨i+1,by omega,by go_num,by rw[ud k,ud q];simp,(ud F).alloc (ud F).size _⟩
    case measure=>simp[intOf];omega
   ·rw[S]at r;by_cases f:s.t= -1
    ·have q:=ze (zoH (c:=m.c) (nu:=m.nu) n f);have aa:(s.t== -1)=true:=(by simp[f]);clear S n f;go_wp2_with fail;refine zh wr.1.size (by kernel_rfl) (by kernel_rfl) ?_;repeat(go_big_quiet_step (first|(go_at_call 218;exact Calls.later (za _) (ud r _))))
     refine wpQuiet_nil ?_;rintro⟨w1,a⟩;clear M N;have z0:=(a.cell (p:=(U g (i*3))) d).trans Q;have z1:=(a.cell (p:=(U g (i*3+1))) d).trans x1;have z2:=(a.cell (p:=(U g (i*3+2))) d).trans x2;dsimp only;go_wp2_with fail;refine(ud J w1 a).mono ?_;rintro e w2 ⟨rfl,j⟩;have F:=ze (R.trans ((a.trans (j.mono a.size)).mono R.size));have y0:=((a.trans (j.mono a.size)).cell (p:=(U g (i*3))) d).trans Q;have a6:g<w2.1.size:=zz d (a.trans (j.mono a.size)).size;clear z0 z1 z2 Q x1 x2;generalize xy m.c s m.nu=A at*;go_wp2_with fail;go_roundw;case rel=>exact⟨i+1,by omega,by go_num,by rw[ud k,ud q],(ud F).alloc (ud F).size _⟩
     case measure=>simp[intOf];omega
    ·have q:=ze (zmC (c:=m.c) (nu:=m.nu) n f);have aa:(s.t== -1)=false:=(by simp[f]);clear S n f;go_wp2_with fail;refine zh wr.1.size (by kernel_rfl) (by kernel_rfl) ?_;repeat(go_big_quiet_step (first|(go_at_call 218;exact Calls.later (za _) (ud r _))))
     refine wpQuiet_nil ?_;rintro⟨w1,a⟩;clear M N;have z0:=(a.cell (p:=(U g (i*3))) d).trans Q;have z1:=(a.cell (p:=(U g (i*3+1))) d).trans x1;have z2:=(a.cell (p:=(U g (i*3+2))) d).trans x2;dsimp only;go_wp2_with fail;refine(ud J w1 a).mono ?_;rintro e w2 ⟨rfl,j⟩;have F:=ze (R.trans ((a.trans (j.mono a.size)).mono R.size));have y0:=((a.trans (j.mono a.size)).cell (p:=(U g (i*3))) d).trans Q;have a6:g<w2.1.size:=zz d (a.trans (j.mono a.size)).size;clear z0 z1 z2 Q x1 x2;generalize xy m.c s m.nu=A at*;go_wp2_with fail;go_roundw;case rel=>exact⟨i+1,by omega,by go_num,by rw[ud k,ud q],(ud F).alloc (ud F).size _⟩
     case measure=>simp[intOf];omega
  ·have a8:i=L.length:=(by omega);have hU:=ud HU;have hx:vX m.c m.nu m.gone (L.take i)=m.used:=(by rw[a8,List.take_length,hU]);rw[hx];go_wp2_with fail;go_ret;exact⟨rfl,a3⟩
def RM.tight(m:RM):Bool:=decide (3*m.c.qu<4*m.used)
theorem zcs(h:zR B w p m tv nv pv gv kv)(d:m.c.ok)(s:m.nu.length<=100000000)(f:m.gone.length<=1000000000000)(b:∀x∈m.nu,x.ok)(A:m.used<=1000000000000000000):
  Calls prog 220 #[(O p)] w (Rz w (.bool m.tight)):=by
 have i:=ze (zaR h d (by omega) f b);have v:0<=m.used:=(Ya (c:=m.c) (rc:=m.gone) (jK d.n4 (by omega)) (by omega) b).1;have t:=h.lt;obtain⟨j,k,l,n,o,q,r⟩:=h.conf;have z:=d.qu;have g:Hid (m.tight=decide (3*m.c.qu<4*m.used)):=rfl;clear h j k l n o r;go_in;go_wp2_with fail;refine i.mono ?_;rintro e w1 ⟨rfl,a⟩;have y:=(a.cell (p:=(U p 5)) t).trans q;generalize m.used=u at*;go_wp2_with fail;go_ret;exact⟨zQ (by rw[ud g]),a⟩
theorem zk{a:z9}(h:zj f a w)(b:f g):zj f a (w.setCell (U g i) v):=h.setCell (p:=(U g i)) (fun _=>b) v
theorem kC{a:z9}(h:zj f a w)(b:B_ w w'):zj f a w':=h.trans (zj.of_below (f:=f) b) (fun _ _ h=>h)
theorem zn{fn:Func}{p u:Tmp}{a:TypeId}(h:fn.results=#[.cell p a,.tmp u])(tmps:Array zb)(w:z9)(g:Nat)(t:TypeId)(cs:Array zb)(fr:Nat×Nat)(d:TypeDesc)(x:zb)(f:tmps.getD p u_=(O g))(j:tmps.getD u u_=x)(c:w.1[g]?=G (.cells cs t fr))(i:P.underlying a=G d)(b:(match d with| .struct _| .array _ _=>true|_=>false)=true)(e:(P.info? a).map (·.size)=G cs.size):
  (results fn tmps).run P w=.ok (.tuple #[.agg cs,x]) w:=by
 rw[results_cell_tmp h,f,j];simp[asAddr,run_loadVar_row w g t a cs fr d c i b e,Result.andThen]
def clV(A:Cl):zb:=.agg #[I A.cnt,I A.sum,i_ A.mn,i_ A.mx]
theorem zv{T e:TypeId}(h:w.1[p]?=G (.cells cs T fr))(g:w.ownsRow B e size v n xs)(d:T≠e):∀k,v.ownBlock=G k->¬k=p:=fun k f b=>by
 subst b;obtain⟨c,a⟩:=zG g f;rw[h]at a;injection a with a;injection a with _ a;exact d a
structure SV where
 st:Int
 cl:Cl
abbrev LV:=List (Sg×SV)
def qL:Cl:=⟨0,0,0,0⟩
def zw(L:LV):List Sg:=L.map (·.1)
def vf(L:LV)(s:Sg):Option SV:=(L.find? (fun p=>decide (p.1=s))).map (·.2)
def km(L:LV)(s:Sg)(v:SV):LV:=if s∈zw L then L.map (fun p=>if p.1=s then(s,v)else p)else L++[(s,v)]
def stL(L:LV)(s:Sg):SV:=(vf L s).getD ⟨0,qL⟩
def kg(v:SV):Int:=if v.st=1 then v.cl.cnt else 2
def qr:List Int->Int
 |[]=>0
 |a::l=>a+qr l
def xh(L:LV):Int:=qr (L.map (fun p=>kg p.2))
def Vx(k:Int)(v:SV):Int:=if v.st=k then 1 else 0
def xW(L:LV)(k:Int):Int:=qr (L.map (fun p=>Vx k p.2))
theorem Vj(a b:List Int):qr (a++b)=qr a+qr b:=by
 induction a with
 |nil=>simp[qr]
 |cons x l c=>simp only[List.cons_append,qr,c];omega
theorem Vk{a b:List Int}(h:a.Perm b):qr a=qr b:=by
 induction h with
 |nil=>rfl
 |cons x _ e=>simp only[qr,e]
 |swap x y l=>simp only[qr];omega
 |trans _ _ c d=>exact c.trans d
theorem Jz{α:Type}(f:α->Int):∀(l:List α) (u:Int),l.foldl (fun n s=>n+f s) u=u+qr (l.map f)
 |[],u=>by simp[qr]
 |a::l,u=>by rw[List.foldl_cons,Jz f l (u+f a)];simp only[List.map_cons,qr];omega
variable {L:LV}
theorem yT:vf L s=zl↔s∉zw L:=by
 unfold vf zw;rw[Option.map_eq_none_iff,List.find?_eq_none];simp only[decide_eq_true_eq,List.mem_map];constructor
 ·rintro h ⟨p,a,rfl⟩;exact h p a rfl
 ·rintro h p a e;exact h ⟨p,a,e⟩
theorem jj{v:SV}(h:vf L s=G v):(s,v)∈L:=by
 unfold vf at h;rw[Option.map_eq_some_iff]at h;obtain⟨p,b,rfl⟩:=h;have a:=List.find?_some b;have c:=List.mem_of_find?_eq_some b;simp at a;subst a;exact c
theorem JT(h:s∈zw L):∃v,vf L s=G v/\(s,v)∈L:=by
 cases e:vf L s with
 |none=>exact absurd h (yT.1 e)
 |some v=>exact⟨v,rfl,jj e⟩
theorem xU{v:SV}{k:Sg}:k∈zw (km L s v)↔k∈zw L\/k=s:=by
 unfold km;by_cases h:s∈zw L
 ·rw[if_pos h];have:zw (L.map (fun p=>if p.1=s then(s,v)else p))=zw L:=by
   unfold zw;rw[List.map_map];apply List.map_congr_left;intro p _;simp only[Function.comp];split<;>simp_all
  rw[this];constructor
  ·exact .inl
  ·rintro(a|rfl)<;>assumption
 ·rw[if_neg h];simp[zw]
theorem vD{v:SV}(h:(zw L).Nodup):(zw (km L s v)).Nodup:=by
 unfold km;by_cases c:s∈zw L
 ·rw[if_pos c];have:zw (L.map (fun p=>if p.1=s then(s,v)else p))=zw L:=by
   unfold zw;rw[List.map_map];apply List.map_congr_left;intro p _;simp only[Function.comp];split<;>simp_all
  rw[this];exact h
 ·rw[if_neg c];unfold zw at*;rw[List.map_append,List.nodup_append];refine⟨h,by simp,fun a f b d=>?_⟩;simp at d;subst d;intro e;subst e;exact c f
theorem qG{v:SV}{p:Sg×SV}(h:p∈km L s v):p=(s,v)\/(p∈L/\p.1≠s):=by
 unfold km at h;by_cases a:s∈zw L
 ·rw[if_pos a,List.mem_map]at h;obtain⟨q,b,rfl⟩:=h;by_cases e:q.1=s
  ·left;simp[e]
  ·right;simp[e,b]
 ·rw[if_neg a,List.mem_append]at h;rcases h with h|h
  ·right;exact⟨h,fun e=>a (by unfold zw;exact List.mem_map.2 ⟨p,h,e⟩)⟩
  ·left;simpa using h
theorem XK{v:SV}(f:SV->Int)(h:s∉zw L):qr ((km L s v).map (fun p=>f p.2))=qr (L.map (fun p=>f p.2))+f v:=by
 unfold km;rw[if_neg h,List.map_append,Vj];simp[qr]
theorem zfY{v:SV}(f:SV->Int):s∉zw L->(L.map (fun p=>if p.1=s then(s,v)else p)).map (fun p=>f p.2)=L.map (fun p=>f p.2):=by
 intro h;rw[List.map_map];apply List.map_congr_left;intro p a;have:¬p.1=s:=fun e=>h (by unfold zw;exact List.mem_map.2 ⟨p,a,e⟩);simp[this]
theorem Vl{s:Sg}{u v:SV}(f:SV->Int):∀{L:LV},(zw L).Nodup->(s,u)∈L->qr ((L.map (fun p=>if p.1=s then(s,v)else p)).map (fun p=>f p.2))=qr (L.map (fun p=>f p.2))-f u+f v
 |[],_,h=>by simp at h
 |q::L,hn,h=>by
  unfold zw at hn;rw[List.map_cons,List.nodup_cons]at hn;rw[zs]at h;rcases h with rfl|h
  ·have a:=zfY (L:=L) (s:=s) (v:=v) f hn.1;rw[List.map_cons,List.map_cons,List.map_cons,a];simp only[qr,if_true];omega
  ·have b:¬q.1=s:=fun e=>hn.1 (by rw[e];exact List.mem_map.2 ⟨_,h,rfl⟩);have:=Vl f (L:=L) (s:=s) (u:=u) (v:=v) hn.2 h;rw[List.map_cons,List.map_cons,List.map_cons];simp only[b,if_false,qr];rw[this];omega
def znG(c:Cf)(nu:List Nm)(s:Sg):SV:=if s.t= -1 then⟨1,xy c s nu⟩else⟨2,qL⟩
section
variable {c:Cf} {nu:List Nm} {L:LV}
end
theorem zbc{c:Cf}{s:Sg}:∀(nu:List Nm) (a:Cl),(∀x∈nu,¬zT c s.t x=s)->nu.foldl (qW c s) a=a
 |[],a,_=>rfl
 |x::r,a,h=>by
  rw[List.foldl_cons,qW,if_neg (h x (by simp))];exact zbc r a (fun y b=>h y (by simp[b]))
theorem zbb{c:Cf}{s:Sg}:∀(nu:List Nm) (a:Cl),a.cnt<=(nu.foldl (qW c s) a).cnt
 |[],a=>Int.le_refl _
 |x::r,a=>by
  rw[List.foldl_cons];have:=zbb (c:=c) (s:=s) r (qW c s a x);have b:a.cnt<=(qW c s a x).cnt:=by
   unfold qW;split
   ·simp only[Zn];omega
   ·omega
  omega
theorem zek{c:Cf}{s:Sg}:∀(nu:List Nm) (a:Cl),0<=a.cnt->(∃x∈nu,zT c s.t x=s)->1<=(nu.foldl (qW c s) a).cnt
 |[],a,_,h=>by obtain⟨x,b,_⟩:=h;simp at b
 |x::r,a,g,h=>by
  rw[List.foldl_cons];by_cases b:zT c s.t x=s
  ·have:=zbb (c:=c) (s:=s) r (qW c s a x);have f:(qW c s a x).cnt=a.cnt+1:=(by simp[qW,b,Zn]);omega
  ·have f:qW c s a x=a:=(by simp[qW,b]);rw[f];obtain⟨y,d,e⟩:=h;rw[zs]at d;rcases d with rfl|d
   ·exact absurd e b
   ·exact zek r a g ⟨y,d,e⟩
theorem zbe(b: -1<=s.t)(d:s.t<c.n):(xy c s nu).cnt=0↔s∉zV c nu:=by
 constructor
 ·intro h f;obtain⟨_,_,x,a,e⟩:=kD.1 f;have:=zek (c:=c) (s:=s) nu ⟨0,0,0,0⟩ (by simp) ⟨x,a,e.symm⟩;unfold xy at h;omega
 ·intro h;have:xy c s nu=⟨0,0,0,0⟩:=zbc nu _ (fun x a e=>h (kD.2 ⟨b,d,x,a,e.symm⟩));rw[this]
def ya(v:Int):Option Cl->Cl
 |none=>⟨1,v,v,v⟩
 |some o=>⟨1+o.cnt,v+o.sum,if o.mn<v then o.mn else v,if v<o.mx then o.mx else v⟩
def xt(c:Cf)(x:Nm):Sg:=zT c (-1) x
def yg(c:Cf)(L:LV)(x:Nm):LV:=km L (xt c x) ⟨1,ya x.val ((vf L (xt c x)).map (·.cl))⟩
def qm(c:Cf)(x:Nm)(k:Nat)(L:LV):LV:=if zT c (k:Int) x∈zw L then L else km L (zT c (k:Int) x) ⟨2,qL⟩
def kZ(c:Cf)(x:Nm):Nat->LV->LV
 |0,L=>L
 |k+1,L=>qm c x k (kZ c x k L)
def kY(c:Cf)(L:LV)(x:Nm):LV:=kZ c x c.n (yg c L x)
def yv(c:Cf)(L:LV)(x:Nm):Nat->Int
 |0=>0
 |k+1=>yv c L x k+(if zT c (k:Int) x∈zw L then 0 else 1)
theorem jm(c:Cf)(L:LV)(x:Nm):∀k:Nat,0<=yv c L x k/\yv c L x k<=k
 |0=>by simp[yv]
 |k+1=>by have:=jm c L x k;simp only[yv];split<;>omega
section
variable {c:Cf} {nu:List Nm} {L:LV}
theorem zjO{i j:Int}(h:i≠j):zT c i x≠zT c j x:=fun e=>h (by injection e)
structure Mid(c:Cf)(nu:List Nm)(x:Nm)(k:Nat)(L:LV):Prop where
 nodup:(zw L).Nodup
 keys:∀s,s∈zw L↔s∈zV c nu\/s=xt c x\/∃j:Nat,j<k/\s=zT c (j:Int) x
 vals:∀p∈L,p.2=znG c (nu++[x]) p.1
theorem Mid.step(h:Mid c nu x k L):Mid c nu x (k+1) (qm c x k L):=by
 unfold qm;by_cases d:zT c (k:Int) x∈zw L
 ·rw[if_pos d];refine⟨h.nodup,fun s=>?_,h.vals⟩;rw[h.keys];constructor
  ·rintro(a|a|⟨j,b,a⟩)
   ·exact .inl a
   ·exact .inr (.inl a)
   ·exact .inr (.inr ⟨j,by omega,a⟩)
  ·rintro(a|a|⟨j,b,a⟩)
   ·exact .inl a
   ·exact .inr (.inl a)
   ·by_cases e:j=k
    ·subst e;subst a;exact(h.keys _).1 d
    ·exact .inr (.inr ⟨j,by omega,a⟩)
 ·rw[if_neg d];refine⟨vD h.nodup,fun s=>?_,fun p f=>?_⟩
  ·rw[xU,h.keys];constructor
   ·rintro((a|a|⟨j,b,a⟩)|a)
    ·exact .inl a
    ·exact .inr (.inl a)
    ·exact .inr (.inr ⟨j,by omega,a⟩)
    ·exact .inr (.inr ⟨k,by omega,a⟩)
   ·rintro(a|a|⟨j,b,a⟩)
    ·exact .inl (.inl a)
    ·exact .inl (.inr (.inl a))
    ·by_cases e:j=k
     ·subst e;exact .inr a
     ·exact .inl (.inr (.inr ⟨j,by omega,a⟩))
  ·rcases qG f with rfl|⟨f,_⟩
   ·show(⟨2,qL⟩:SV)=znG c (nu++[x]) (zT c (k:Int) x);unfold znG;rw[if_neg (show¬(zT c (k:Int) x).t= -1 by simp only[zT];omega)]
   ·exact h.vals p f
theorem Mid.to{x:Nm}(h:Mid c nu x 0 L):∀k,Mid c nu x k (kZ c x k L)
 |0=>h
 |k+1=>(Mid.to h k).step
theorem zac(x:Nm)(j:Nat)(k:Nat):zT c (j:Int) x∈zw (kZ c x k (yg c L x))↔zT c (j:Int) x∈zw L\/j<k:=by
 induction k with
 |zero=>
  show _∈zw (km _ _ _)↔_;rw[xU];constructor
  ·rintro(h|h)
   ·exact .inl h
   ·exact absurd h (zjO (by omega))
  ·rintro(h|h)
   ·exact .inl h
   ·omega
 |succ k b=>
  show _∈zw (qm c x k _)↔_;unfold qm;by_cases a:zT c (k:Int) x∈zw (kZ c x k (yg c L x))
  ·rw[if_pos a,b];constructor
   ·rintro(h|h)
    ·exact .inl h
    ·exact .inr (by omega)
   ·rintro(h|h)
    ·exact .inl h
    ·by_cases e:j=k
     ·subst e;exact b.1 a
     ·exact .inr (by omega)
  ·rw[if_neg a,xU,b];constructor
   ·rintro((h|h)|h)
    ·exact .inl h
    ·exact .inr (by omega)
    ·right;have:(j:Int)=(k:Int):=(by injection h);omega
   ·rintro(h|h)
    ·exact .inl (.inl h)
    ·by_cases e:j=k
     ·subst e;exact .inr rfl
     ·exact .inl (.inr (by omega))
theorem zoI(x:Nm)(k:Nat):xh (kZ c x k (yg c L x))=xh (yg c L x)+2*yv c L x k:=by
 induction k with
 |zero=>simp[kZ,yv]
 |succ k d=>
  show xh (qm c x k _)=_;unfold qm;have b:=zac (c:=c) (L:=L) x k k;simp only[Nat.lt_irrefl,or_false]at b;by_cases h:zT c (k:Int) x∈zw L
  ·rw[if_pos (b.2 h),d];simp[yv,h]
  ·rw[if_neg (fun a=>h (b.1 a))];unfold xh at d ⊢;rw[XK kg (fun a=>h (b.1 a)),d];simp[yv,h,kg];omega
end
end
section
open Go.RowKit Go.Maps
open Go.ChangeMaps (setBlock modify_eq_set)
variable {es:Array MapEntry} {L:LV} {b clock j:Nat} {w w':z9}
abbrev SX:=Sg×SV
abbrev xZz(x:SX):Array zb:=#[I x.1.t,I x.1.se,I x.1.we,I x.2.st,I x.2.cl.cnt,I x.2.cl.sum,i_ x.2.cl.mn,i_ x.2.cl.mx]
def zX:SX:=(⟨0,0,0⟩,⟨0,qL⟩)
def vx(x:SX):zb:=.agg (xZz x)
def xX(n:Int):Prop:= -9223372036854775808<=n/\n<=9223372036854775807
def Sg.wf(s:Sg):Prop:=xX s.t/\xX s.se/\xX s.we
theorem Tryz.laidOut:laidOutB prog=true:=by kernel_rfl
theorem zps:(146:TypeId)<prog.types.size:=of_decide_eq_true (by kernel_rfl)
theorem Qg:Keyed prog 146:=Keyed.of_law (deep_law_laid Tryz.laidOut (m:=2) (Nat.le_of_ble_eq_true rfl) zps (by kernel_rfl) (by kernel_rfl))
theorem zlA:∃m,prog.types.size=m+1:=by
 have h:0<prog.types.size:=of_decide_eq_true (by kernel_rfl);exact⟨prog.types.size-1,by omega⟩
theorem KF:prog.cellsOf 146=3:=by kernel_rfl
theorem Ky:prog.cellsOf 3=1:=by kernel_rfl
theorem zlB:prog.keyType 146=true:=by kernel_rfl
variable {s:Sg}
theorem zeY{k:Sg}(h:vl s=vl k):s=k:=by
 unfold vl at h;injection h with h;injection h with h;injection h with a h;injection h with b h;injection h with c h;injection a with _ a;injection b with _ b;injection c with _ c;cases s;cases k;simp at*;exact⟨a,b,c⟩
theorem zmD{n:Int}(h:xX n):(Lit.int .i64 n).wf=true:=WalkArith.wf_i64 (by unfold xX at h;omega)
theorem zck(h:s.wf):∃g,keyOf prog 146 (vl s)=G g:=by
 obtain⟨m,f⟩:=zlA;obtain⟨b,c,d⟩:=h;have e:(vl s).formed prog 146=true:=by
  simp[Value.formed,vl,underlying146,KF]
 unfold keyOf;simp only[underlying146,zlB,e,Bool.and_self,if_true];have:∃ls,prog.keyLits (prog.types.size+1) 146 (vl s).cells.toList=G ls:=by
  rw[f];simp[Program.keyLits,underlying146,underlying3,vl,Value.cells,KF,Ky,zmD b,zmD c,zmD d]
 obtain⟨ls,a⟩:=this;exact⟨_,by rw[a];rfl⟩
structure zoW(es:Array MapEntry)(clock:Nat)(L:LV):Prop where
 kv:es.toList.map (fun e=>(e.key,e.val))=L.map (fun p=>(vl p.1,vx p))
 born:∀e∈es.toList,e.born<clock
 once:(es.toList.map (·.born)).Nodup
 wf:∀p∈L,p.1.wf
 nodup:(zw L).Nodup
 size:es.size<=maxLen
def vm(w:z9)(b:Nat)(L:LV):Prop:=∃es clock,w.1[b]?=G (.map es clock)/\zoW es clock L
theorem vm.lt(h:vm w b L):b<w.1.size:=by
 obtain⟨es,clock,a,_⟩:=h;exact zd a
theorem vm.kept{f:Nat->Prop}(h:vm w b L)(d:zj f w w')(hn:¬f b):vm w' b L:=by
 obtain⟨es,clock,a,c⟩:=h;exact⟨es,clock,d.heap a hn,c⟩
theorem vm.later(h:vm w b L)(a:B_ w w'):vm w' b L:=
 h.kept (f:=fun _=>False) (zj.of_below a) (fun h=>h)
theorem zoW.keys(h:zoW es clock L):∀e∈es.toList,∃l,keyOf prog 146 e.key=G l:=fun e b=>by
 have c:(e.key,e.val)∈L.map (fun p=>(vl p.1,vx p)):=h.kv▸List.mem_map.2 ⟨e,b,rfl⟩;obtain⟨p,d,a⟩:=List.mem_map.1 c;injection a with a f;rw[<-a];exact zck (h.wf p d)
theorem zoW.at(h:zoW es clock L){e:MapEntry}(c:es.toList[j]?=G e):∃p,L[j]?=G p/\e.key=vl p.1/\e.val=vx p:=by
 have a:(es.toList.map (fun e=>(e.key,e.val)))[j]?=G (e.key,e.val):=by simp[c]
 rw[h.kv,List.getElem?_map]at a;cases b:L[j]? with
 |none=>simp[b]at a
 |some p=>
  rw[b]at a;simp at a;exact⟨p,rfl,a.1.symm,a.2.symm⟩
variable {p:Sg×SV}
theorem ziu(a:L[j]?=G p)(e:p.1=s):s∈zw L:=by
 unfold zw;exact List.mem_map.2 ⟨p,List.mem_of_getElem? a,e⟩
theorem znC(hn:(zw L).Nodup)(m:L[j]?=G p):vf L p.1=G p.2:=by
 obtain⟨v,hv,n⟩:=JT (ziu m rfl);rw[hv];have k:=List.mem_of_getElem? m;have:(p.1,v)=p:=by
  have f:L.Pairwise (fun a b=>a.1≠b.1):=by unfold zw at hn;exact List.pairwise_map.1 hn
  by_cases e:(p.1,v)=p
  ·exact e
  ·obtain⟨i,l,g⟩:=List.getElem_of_mem n;obtain⟨i2,d,c⟩:=List.getElem_of_mem k;rcases Nat.lt_trichotomy i i2 with h|h|h
   ·have:=List.pairwise_iff_getElem.1 f i i2 l d h;rw[g,c]at this;exact absurd rfl this
   ·subst h;rw[g]at c;exact c
   ·have:=List.pairwise_iff_getElem.1 f i2 i d l h;rw[g,c]at this;exact absurd rfl this
 rw[<-this]
def zdo(c:Bool)(z:zb)(L:LV)(s:Sg):zb:=match vf L s with
 |none=>if c then .tuple #[z,.bool false]else z
 |some v=>if c then .tuple #[vx (s,v),.bool true]else vx (s,v)
theorem zeT(c:Bool)(h:vm w b L)(v:s.wf):
  (Instr.lookup 152 (.map (G b)) (vl s) c).run prog w=.ok (zdo c (vx zX) L s) w:=by
 obtain⟨es,clock,o,f⟩:=h;obtain⟨C,a⟩:=zck v;have z:(zeroValue 148).run prog w=.ok (vx zX) w:=by kernel_rfl
 rcases Qg.find w a es.toList f.keys with⟨g,i⟩|⟨j,A,g,i,r⟩
 ·have k:vf L s=zl:=yT.2 (fun u=>by
   obtain⟨p,m,e⟩:=List.mem_map.1 (show s∈L.map (·.1)from u);have l:(vl p.1,vx p)∈es.toList.map (fun e=>(e.key,e.val)):=f.kv▸List.mem_map.2 ⟨p,m,rfl⟩;obtain⟨x,y,ex⟩:=List.mem_map.1 l;injection ex with q B;exact i x y (by rw[q,e]))
  simp[Instr.lookup,run_underlying underlying152,MapKept.run_getObj_map o,Qg.check w _ a,g,z,Result.andThen,zdo,k]
 ·obtain⟨p,m,t,hv⟩:=f.at i;have d:p.1=s:=zeY (t.symm.trans r);have k:vf L s=G p.2:=by rw[<-d];exact znC f.nodup m
  have n:p=(s,p.2):=by rw[<-d]
  rw[n]at hv;simp[Instr.lookup,run_underlying underlying152,MapKept.run_getObj_map o,Qg.check w _ a,g,Result.andThen,zdo,k,hv]
theorem zou(h:zoW es clock L):es.size=L.length:=by
 have:=congrArg List.length h.kv;simpa using this
theorem zcg(h:vm w b L)(M:L.length<maxLen)(N:s.wf)(v:SV):
  ∃o,(Instr.mapUpdate 152 (.map (G b)) (vl s) (vx (s,v))).run prog w=.ok () (setBlock w b o)/\vm (setBlock w b o) b (km L s v)/\zj (fun k=>k=b) w (setBlock w b o)/\o.isCells=false:=by
 have H:=h.lt;have U:∀o,zj (fun k=>k=b) w (setBlock w b o):=fun o=>⟨rfl,rfl,rfl,by simp[setBlock],fun k T u=>by
  simp only[setBlock];rw[Array.getElem?_setIfInBounds_ne (fun e=>u e.symm)]⟩
 have z:∀o,(setBlock w b o).1[b]?=G o:=fun o=>by simp[setBlock,H]
 obtain⟨es,clock,D,d⟩:=h;obtain⟨kl,n⟩:=zck N;rcases Qg.find w n es.toList d.keys with⟨F,t⟩|⟨j,y,F,t,R⟩
 ·have X:s∉zw L:=(fun hm=>by
   obtain⟨p,f,e⟩:=List.mem_map.1 (show s∈L.map (·.1)from hm);have J:(vl p.1,vx p)∈es.toList.map (fun e=>(e.key,e.val)):=d.kv▸List.mem_map.2 ⟨p,f,rfl⟩;obtain⟨x,m,ex⟩:=List.mem_map.1 J;injection ex with V e2;exact t x m (by rw[V,e]))
  refine⟨.map (es.push ⟨vl s,vx (s,v),clock⟩) (clock+1),?_,⟨_,_,z _,?_⟩,U _,rfl⟩
  ·simp[Instr.mapUpdate,run_underlying underlying152,MapKept.run_getObj_map D,Qg.check w false n,F,MapKept.run_setObj_map _ D,Result.andThen,setBlock]
  ·have f:km L s v=L++[(s,v)]:=(by unfold km;rw[if_neg X]);refine⟨by rw[f];simp[d.kv],?_,?_,?_,vD d.nodup,by have:=zou d;simp;omega⟩
   ·intro x m;simp at m;rcases m with m|rfl
    ·have:=d.born x (by simpa using m);omega
    ·simp
   ·rw[Array.toList_push,List.map_append,List.nodup_append];refine⟨d.once,by simp,fun a W c S=>?_⟩;simp at S;subst S;obtain⟨x,m,rfl⟩:=List.mem_map.1 W;have:=d.born x m;omega
   ·rw[f];intro p f;rcases List.mem_append.1 f with f|f
    ·exact d.wf p f
    ·simp at f;subst f;exact N
 ·obtain⟨p,f,T,hv⟩:=d.at t;have r:p.1=s:=zeY (T.symm.trans R);have Z:es[j]?=G y:=by simpa using t
  have I:s∈zw L:=ziu f r;have g:(es.modify j (fun E=>{E with key:=vl s,val:=vx (s,v)})).toList=es.toList.set j {y with key:=vl s,val:=vx (s,v)}:=by rw[Array.toList_modify,modify_eq_set _ _ _ _ t]
  refine⟨.map (es.modify j (fun E=>{E with key:=vl s,val:=vx (s,v)})) clock,?_,⟨_,_,z _,?_⟩,U _,rfl⟩
  ·simp[Instr.mapUpdate,run_underlying underlying152,MapKept.run_getObj_map D,Qg.check w false n,F,Z,R,Qg.stays w n,MapKept.run_setObj_map _ D,Result.andThen,setBlock]
  ·have B:km L s v=L.set j (s,v):=by
    unfold km;rw[if_pos I];apply List.ext_getElem?;intro i;rw[List.getElem?_map,List.getElem?_set];by_cases e:j=i
    ·subst e;have l:j<L.length:=(List.getElem?_eq_some_iff.1 f).1;rw[f];simp only[Option.map_some,r,if_true,l]
    ·rw[if_neg e];cases Y:L[i]? with
     |none=>simp
     |some q=>
      have u:q.1≠s:=fun Q=>by
       have C:L.Pairwise (fun a b=>a.1≠b.1):=List.pairwise_map.1 d.nodup;obtain⟨A,O⟩:=List.getElem?_eq_some_iff.1 Y;obtain⟨l,P⟩:=List.getElem?_eq_some_iff.1 f;rcases Nat.lt_or_gt_of_ne e with h|h
       ·have:=List.pairwise_iff_getElem.1 C j i l A h;rw[O,P]at this;exact this (r.trans Q.symm)
       ·have:=List.pairwise_iff_getElem.1 C i j A l h;rw[O,P]at this;exact this (Q.trans r.symm)
      simp[u]
   refine⟨?_,?_,?_,?_,vD d.nodup,by simpa using d.size⟩
   ·rw[g,B,List.map_set,List.map_set,d.kv]
   ·intro x m;rw[g]at m;rcases List.mem_or_eq_of_mem_set m with m|rfl
    ·exact d.born x m
    ·exact d.born y (List.mem_of_getElem? t)
   ·rw[g,List.map_set];have:(es.toList.map (·.born)).set j y.born=es.toList.map (·.born):=by
     apply List.ext_getElem?;intro i;rw[List.getElem?_set];by_cases e:j=i
     ·subst e;have l:j<es.toList.length:=(List.getElem?_eq_some_iff.1 t).1;simp only[List.length_map,l,if_true,List.getElem?_map,t,Option.map_some]
     ·rw[if_neg e]
    show((es.toList.map (·.born)).set j y.born).Nodup;rw[this];exact d.once
   ·intro q K;rcases qG K with rfl|⟨K,_⟩
    ·exact N
    ·exact d.wf q K
end
section
open Go.ChangeMaps (setBlock)
open Go.RowKit Go.Maps Go.Shelf
variable {es:Array MapEntry} {seen:Array Nat} {lb:Array zb} {F:Fence} {ps:List MapEntry} {e:MapEntry} {N g gf k l m m' n q r:Nat} {o:Obj} {row:Option Nat} {P:Program} {v:zb} {A B W W' w w0:z9} {Kp:z9->z9->Prop}
attribute [local go_sem] Oper.semAt_some
theorem xL(h:r<w.1.size)(o:Obj):(setBlock w r o).1[r]?=G o:=by simp[setBlock,h]
theorem xr(h:k≠r)(o:Obj):(setBlock w r o).1[k]?=w.1[k]?:=by
 simp only[setBlock];rw[Array.getElem?_setIfInBounds_ne (fun e=>h e.symm)]
theorem xA(w:z9)(r:Nat)(o:Obj):w.grownBy (setBlock w r o) (G r):=
 ⟨rfl,rfl,rfl,by simp[setBlock],fun k _ a=>xr (fun e=>a (by rw[e])) o⟩
def Zc(es:Array MapEntry)(r:Nat)(w:z9):Nat:=match w.1[r]? with
 |some (.mapIter _ _ seen _)=>(leftOf es seen).size
 |_=>0
theorem xw{m:Option Nat}{s:Nat}{c:Nat}(h:w.1[r]?=G (.mapIter m s seen c)):Zc es r w=(leftOf es seen).size:=by
 unfold Zc;rw[h]
theorem xH:e∈(leftOf es seen).toList↔e∈es.toList/\e.born∉seen.toList:=by
 simp[leftOf]
theorem qT(b:e∈(leftOf es seen).toList):(leftOf es (seen.push e.born)).size<(leftOf es seen).size:=by
 have a:leftOf es (seen.push e.born)=(leftOf es seen).filter (fun x=>x.born !=e.born):=by
  unfold leftOf;rw[Array.filter_filter];congr 1
  funext x
  by_cases h:x.born=e.born<;>simp[h]
 rw[a];simp;exact⟨e,Array.mem_toList_iff.1 b,rfl⟩
structure zee(es:Array MapEntry)(seen:Array Nat)(ps:List MapEntry):Prop where
 born:ps.map (·.born)=seen.toList
 once:(ps.map (·.born)).Nodup
 sub:∀e∈ps,e∈es.toList
theorem zee.step(h:zee es seen ps)(k:e∈(leftOf es seen).toList):zee es (seen.push e.born) (ps++[e]):=by
 obtain⟨i,j⟩:=xH.1 k;refine⟨by simp[h.born],?_,fun x c=>?_⟩
 ·rw[List.map_append,List.nodup_append];refine⟨h.once,by simp,fun a d b f=>?_⟩;simp at f;subst f;intro g;subst g;rw[h.born]at d;exact j d
 ·rcases List.mem_append.1 c with c|c
  ·exact h.sub x c
  ·simp at c;subst c;exact i
theorem znp(hn:(es.toList.map (·.born)).Nodup){a b:MapEntry}(l:a∈es.toList)(m:b∈es.toList)(h:a.born=b.born):a=b:=by
 have d:es.toList.Pairwise (fun a b=>a.born≠b.born):=List.pairwise_map.1 hn;obtain⟨i,g,e⟩:=List.getElem_of_mem l;obtain⟨j,k,f⟩:=List.getElem_of_mem m;rcases Nat.lt_trichotomy i j with c|c|c
 ·have:=List.pairwise_iff_getElem.1 d i j g k c;rw[e,f]at this;exact absurd h this
 ·subst c;rw[<-e,f]
 ·have:=List.pairwise_iff_getElem.1 d j i k g c;rw[e,f]at this;exact absurd h.symm this
theorem zee.all(h:zee es seen ps)(hn:(es.toList.map (·.born)).Nodup)(l:(leftOf es seen).size=0):ps.Perm es.toList:=by
 have d:ps.Nodup:=List.Pairwise.of_map (·.born) (fun a b h e=>h (by rw[e])) h.once;have c:es.toList.Nodup:=List.Pairwise.of_map (·.born) (fun a b h e=>h (by rw[e])) hn;refine(List.perm_ext_iff_of_nodup d c).2 (fun e=>⟨h.sub e,fun g=>?_⟩);have i:e.born∈seen.toList:=by
  by_cases f:e.born∈seen.toList
  ·exact f
  ·have:e∈(leftOf es seen).toList:=xH.2 ⟨g,f⟩;have m:(leftOf es seen).toList=[]:=by
    apply List.eq_nil_of_length_eq_zero;simpa using l
   rw[m]at this;simp at this
 rw[<-h.born]at i;obtain⟨x,j,k⟩:=List.mem_map.1 i;rw[<-znp hn (h.sub x j) g k];exact j
theorem zee.lt(h:zee es seen ps)(f:e∈(leftOf es seen).toList):ps.length<es.size:=by
 have d:=(h.step f);have c:(ps++[e]).Nodup:=List.Pairwise.of_map (·.born) (fun a b h e=>h (by rw[e])) d.once;have:=List.Nodup.length_le_of_subset c (fun x g=>d.sub x g);simp at this;omega
attribute [local go_sem] Oper.semAt_some
abbrev WSg:={s:Sg//s.wf}
theorem zoV:(⟨0,0,0⟩:Sg).wf:=by refine⟨?_,?_,?_⟩<;>(unfold xX;simp)
noncomputable def zkJ (s:Sg):WSg:=by classical exact if h:s.wf then⟨s,h⟩else⟨⟨0,0,0⟩,zoV⟩
theorem YV{s:Sg}(h:s.wf):(zkJ s).1=s:=by unfold zkJ;rw[dif_pos h]
def vY(l:List Int):Int:=l.foldl (fun s x=>wrap64 (s+x)) 0
theorem Qy(l:List Int)(x:Int):vY (l++[x])=wrap64 (vY l+x):=by simp[vY]
theorem zkF(a b:Int):wrap64 (wrap64 a+b)=wrap64 (a+b):=by unfold wrap64;omega
theorem zkG:∀l:List Int,vY l=wrap64 (qr l):=by
 intro l;have h:∀(l:List Int) (s:Int),l.foldl (fun s x=>wrap64 (s+x)) (wrap64 s)=wrap64 (s+qr l):=by
  intro l;induction l with
  |nil=>intro s;simp[qr]
  |cons x l a=>intro s;rw[List.foldl_cons,zkF,a,qr];congr 1;omega
 have:=h l 0;have e:wrap64 0=0:=by unfold wrap64;omega
 rw[e]at this;unfold vY;rw[this];congr 1;omega
theorem vF{l:List Int}(h: -9223372036854775808<=qr l/\qr l<=9223372036854775807):vY l=qr l:=by
 rw[zkG];unfold wrap64;omega
theorem zH{cs:Array zb}{t:TypeId}{fr:Nat×Nat}(h:W.1[k]?=G (.cells cs t fr))(c:W.grownBy W' row)(d:∀r,row=G r->∃o:Obj,W.1[r]?=G o/\o.isCells=false):W'.1[k]?=G (.cells cs t fr):=by
 refine(c.block k (zd h) (fun e=>?_)).trans h;obtain⟨o,a,b⟩:=d k e.symm;rw[h]at a;injection a with a;subst a;simp[Obj.isCells]at b
theorem yF(h:B_ W W'):KeepsOthers W W':=⟨h.size,fun k o a _=>(h.block k (zd a)).trans a⟩
theorem xG{D:Nat}(h:zg n w W)(hn:n<=w.1.size)(a:n<=D)(b:W.1[D]?=G o)(o':Obj):zg n w (W.putObj D o'):=
 h.grown (grownBy_putObj' W D o') (zA hn h.size) (fun k e=>by cases e;exact a)
structure Zk(n:Nat)(Kp:z9->z9->Prop):Prop where
 t:∀{A B C:z9},Kp A B->Kp B C->Kp A C
 b:∀(W:z9) (l:Nat) (o o':Obj),n<=l->W.1[l]?=G o->o.isCells=false->o.isWalk=false->Kp W (W.putObj l o')
 of:∀(W W':z9),KeepsOthers W W'->zg n W W'->Kp W W'
theorem vt(n:Nat):Zk n (zg n):=⟨fun h k=>h.trans k,fun W l o o' a h _ _=>(zf n W).grown (grownBy_putObj' W l o') (by have:=zd h;omega) (fun k e=>by cases e;exact a),fun W W' _ h=>h⟩
theorem zco{α:Type}{w':z9}{f:α->Int}{a:List α}{x:α}{t t2:TypeId}{B:Nat}{u:zb}(m:u=I (wrap64 (vY (a.map f)+f x)))(i1:W.1[w.1.size]?=G (.cells #[v] t (0,0)))(i2:W.1[w.1.size+1]?=G (.cells #[I (vY (a.map f))] t2 (0,0)))(i3:B_ w W)(d:Zk w.1.size Kp)(b:B_ W w'):
  KeepsFrom B W (w'.setCell (U (w.1.size+1) 0) u)/\Kp W (w'.setCell (U (w.1.size+1) 0) u)/\((w'.setCell (U (w.1.size+1) 0) u).1[w.1.size]?=G (.cells #[v] t (0,0))/\(w'.setCell (U (w.1.size+1) 0) u).1[w.1.size+1]?=G (.cells #[I (vY ((a++[x]).map f))] t2 (0,0))/\B_ w (w'.setCell (U (w.1.size+1) 0) u)):=by
 subst m;have e:=zd i1;have g:=zd i2;have h:KeepsOthers W (w'.setCell (U (w.1.size+1) 0) (I (wrap64 (vY (a.map f)+f x)))):=(yF b).trans (KeepsOthers.setCell _ _ _);have j:zg w.1.size W (w'.setCell (U (w.1.size+1) 0) (I (wrap64 (vY (a.map f)+f x)))):=((b.mono i3.size).setCell (p:=(U (w.1.size+1) 0)) (Nat.le_succ _) _);refine⟨h.from _,d.of _ _ h j,?_,?_,i3.trans j⟩
 ·have k:=(b.block _ e).trans i1;show(w'.setCell (U (w.1.size+1) 0) _).1[w.1.size]?=_;have c:=((zf (w.1.size+1) w').setCell (p:=(U (w.1.size+1) 0)) (za _) (I (wrap64 (vY (a.map f)+f x)))).block w.1.size (Nat.lt_succ_self _);exact c.trans k
 ·have l:=(b.block _ g).trans i2;rw[List.map_append,List.map_singleton,Qy];exact xq (i:=0) l _
def Yy{α:Type}(F:Fence)(n:Nat)(P:Program)(g:Nat)(lb:Array zb)(encs:α->Array zb)(Kp:z9->z9->Prop)(S Sp:List α->Prop)(N m:Nat)(w:z9):Prop:=
 ∀(l:Nat) (J c:List α->z9->Prop) (W:z9),B_ w W->m<=W.1.size->OwnFrom W.1.size J->OwnFrom W.1.size c->
  (∀a x V,J a V->a.length<N->YieldAt F (n-1) P l (encs x) V fun e b=>(e=.returned (.bool true)/\J (a++[x]) b/\Kp V b)\/(e=.returned (.bool false)/\c (a++[x]) b/\Kp V b))->
  J [] W->CallsIn F n P g (#[.func (.yield l) #[] #[]]++lb) W fun e V=>(∃v,e=.returned v)/\((∃xs,S xs/\J xs V)\/∃a,Sp a/\c a V)
theorem Je{β:Type}{B:Nat}{J:β->z9->Prop}(h:OwnFrom B J):AbidesFrom B J:=fun s W W' row g d f=>
 h s W W' row g d (fun r e=>by obtain⟨a,o,b,c⟩:=f r e;exact⟨a,o,b,Obj.not_cells_of_walk c⟩)
theorem Yy.of{α:Type}{encs:α->Array zb}{S Sp:List α->Prop}(h:SeqStopsK F n P g lb encs Kp S Sp N w):Yy F n P g lb encs Kp S Sp N m w:=
 fun l J f W k _ j c o i=>h l J f W k (Je j) (Je c) (fun d x V hv q=>(o d x V hv q).mono fun e r p=>p.imp id (fun⟨a,b,_⟩=>⟨a,b⟩)) i
theorem Yy.keeps{α:Type}{encs:α->Array zb}{i:z9->z9->Prop}{S Sp:List α->Prop}(h:Yy F n P g lb encs Kp S Sp N m w)(j:∀A B,i A B->Kp A B):Yy F n P g lb encs i S Sp N m w:=
 fun l J k W q u p d r o=>h l J k W q u p d (fun f x V hv t=>(r f x V hv t).mono fun e v s=>s.imp (fun⟨a,b,c⟩=>⟨a,b,j _ _ c⟩) (fun⟨a,b,c⟩=>⟨a,b,j _ _ c⟩)) o
theorem Yy.inRound{α:Type}{encs:α->Array zb}{S Sp:List α->Prop}(l:Nat)(h:Yy F n P g lb encs Kp S Sp N m w):Yy (F.inRound l) n P g lb encs Kp S Sp N m w:=h
def zan{α:Type}(B:Nat)(Kp:z9->z9->Prop)(b:List α->z9->Prop)(a:Code->List α->z9->Prop)(xs:List α)(W:z9)(e:Exit)(_:Act)(W':z9):Prop:=
 KeepsFrom B W W'/\Kp W W'/\match e with
 | .normal=>b xs W'
 | .ret=>a .ret xs W'
 | .exit id=>a (.exit id) xs W'
 | .goto t=>a (.goto t) xs W'
 | .panic _=>False
 | .outgrown=>False
theorem ZK{B:Nat}(a:W.grownBy W' row)(b:∀r,row=G r->B<=r)(c:k<B)(h:W.1[k]?=G o):W'.1[k]?=G o:=
 (a.block k (zd h) (fun e=>by have:=b k e.symm;omega)).trans h
section
variable {α:Type} {F:Fence} {n:Nat} {P:Program} {ps:Array Tmp} {assign body:Code} {encs:α->Array zb} {Kp:z9->z9->Prop} {N:Nat}
theorem zjG(B l fn h:Nat)(tmps:Array zb)(hF:F.fn fn)(i:B<=l)(a1:∀x,(encs x).size=ps.size)(E:z9->Prop)(hE:∀W W',E W->KeepsFrom B W W'->E W')(u:∀W o,E W->E (W.putObj l o))(w:∀{X Y Z:z9},Kp X Y->Kp Y Z->Kp X Z)(C:∀(W:z9) (o o':Obj),W.1[l]?=G o->o.isCells=false->o.isWalk=false->Kp W (W.putObj l o'))(q:List α->z9->Prop)(A:Code->List α->z9->Prop)(hI:OwnFrom B q)(Q:∀c,OwnFrom B (A c))(L:α->Act->z9->Prop)(O:∀x a',OwnFrom B (fun(_:Unit) W=>L x a' W))(k:∀(a:List α) (x:α) (W:z9) (K:Act->z9->Prop),q a W->(∀a' W',KeepsFrom B W W'->Kp W W'->q a W'->L x a' W'->K a' W')->
   assign.wpIn (F.inRound l) n P (Exit.then K (fun _ _ _=>False)) {tmps:=(ps.zip (encs x)).foldl (fun t (p,v)=>t.setIfInBounds p v) tmps,defers:=[]} W) (y:∀(a:List α) (x:α) (a':Act) (W:z9),(∃r:Loop,W.1[l]?=G (.loop r)/\r.defers=h)->q a W->L x a' W->a.length<N->body.wpIn (F.inRound l) n P (zan B Kp q A (a++[x]) W) a' W) (a:List α) (x:α) (W:z9) (hi:q a W) (hl:W.1[l]?=G (.loop {state:=.ready,pending:=zl,fn,tmps,params:=ps,assign,body,defers:=h})) (he:E W) (H:a.length<N):
  YieldAt F n P l (encs x) W fun e V=>(e=.returned (.bool true)/\(q (a++[x]) V/\V.1[l]?=G (.loop {state:=.ready,pending:=zl,fn,tmps,params:=ps,assign,body,defers:=h})/\E V)/\Kp W V)\/
   (e=.returned (.bool false)/\(∃c,A c (a++[x]) V/\V.1[l]?=G (.loop {state:=.done,pending:=G c,fn,tmps,params:=ps,assign,body,defers:=h})/\E V)/\Kp W V):=by
 refine⟨fn,_,assign,body,run_yield (P:=P) (args:=encs x) hl (a1 x),roundIn_of_wpIn hF (k a x W _ hi fun a' X D a0 U R=>?_)⟩;have j:=D.same l _ i hl rfl;have S:=hE _ _ he D;refine⟨_,run_beginRound j rfl,wpIn_mono (y a x a' _ ⟨_,World.putObj_heap_same (zd j),rfl⟩ (hI.putObj _ U i j rfl) ((O x a').putObj (s:=()) _ R i j rfl) H) ?_⟩;have hb:=World.putObj_heap_same (o:=.loop {state:=.busy,pending:=zl,fn,tmps,params:=ps,assign,body,defers:=h}) (zd j);have b:∀V,KeepsFrom B (X.putObj l (.loop {state:=.busy,pending:=zl,fn,tmps,params:=ps,assign,body,defers:=h})) V->V.1[l]?=G (.loop {state:=.busy,pending:=zl,fn,tmps,params:=ps,assign,body,defers:=h})/\E V:=
  fun V f=>⟨f.same l _ i hb rfl,hE _ _ (u _ _ S) f⟩
 have g:∀c V,KeepsFrom B (X.putObj l (.loop {state:=.busy,pending:=zl,fn,tmps,params:=ps,assign,body,defers:=h})) V->A c (a++[x]) V->
   A c (a++[x]) (V.putObj l (.loop {state:=.done,pending:=G c,fn,tmps,params:=ps,assign,body,defers:=h}))/\(V.putObj l (.loop {state:=.done,pending:=G c,fn,tmps,params:=ps,assign,body,defers:=h})).1[l]?=G (.loop {state:=.done,pending:=G c,fn,tmps,params:=ps,assign,body,defers:=h})/\E (V.putObj l (.loop {state:=.done,pending:=G c,fn,tmps,params:=ps,assign,body,defers:=h})):=fun c V f z=>by
  obtain⟨m,M⟩:=b V f;exact⟨(Q c).putObj _ z i m rfl,World.putObj_heap_same (zd m),u _ _ M⟩
 have J:∀V o',Kp (X.putObj l (.loop {state:=.busy,pending:=zl,fn,tmps,params:=ps,assign,body,defers:=h})) V->V.1[l]?=G (.loop {state:=.busy,pending:=zl,fn,tmps,params:=ps,assign,body,defers:=h})->Kp W (V.putObj l o'):=fun V o' d m=>w a0 (w (w (C _ _ _ j rfl rfl) d) (C _ _ _ m rfl rfl));intro e a3 V I
 match e,I with
 | .normal,⟨f,d,T⟩=>
  obtain⟨m,M⟩:=b V f
  exact⟨_,_,run_endRound (P:=P) zl m,.inl ⟨rfl,⟨hI.putObj _ T i m rfl,World.putObj_heap_same (zd m),u _ _ M⟩,J V _ d m⟩⟩
 | .ret,⟨f,d,z⟩=>exact⟨_,_,run_endRound (P:=P) (G .ret) (b V f).1,.inr ⟨rfl,⟨.ret,g .ret V f z⟩,J V _ d (b V f).1⟩⟩
 | .exit id,⟨f,d,z⟩=>exact⟨_,_,run_endRound (P:=P) (G (.exit id)) (b V f).1,.inr ⟨rfl,⟨.exit id,g (.exit id) V f z⟩,J V _ d (b V f).1⟩⟩
 | .goto t,⟨f,d,z⟩=>exact⟨_,_,run_endRound (P:=P) (G (.goto t)) (b V f).1,.inr ⟨rfl,⟨.goto t,g (.goto t) V f z⟩,J V _ d (b V f).1⟩⟩
 | .panic ch,I=>exact I.2.2.elim
 | .outgrown,I=>exact I.2.2.elim
end
section
variable {α:Type} {F:Fence} {n:Nat} {P:Program} {g:Operand} {ps:Array Tmp} {assign body:Code} {Q:Exit->Act->z9->Prop} {a:Act} {w:z9}
theorem yk(a5:F.round=zl)(h1:1<=n)(hg:a.eval g=.func (.func gf) #[] lb)(U:F.fn gf)(eg:∀args w,(callFunc gf args).run P w=.ok (.enter gf args) w){encs:α->Array zb}{S Sp:List α->Prop}(L:Yy F (n-1) P gf lb encs Kp S Sp N m w0)(hm:m<=w.1.size+2)(a2:∀{X Y Z:z9},Kp X Y->Kp Y Z->Kp X Z)(a1:∀(W:z9) (o o':Obj),W.1[w.1.size+1]?=G o->o.isCells=false->o.isWalk=false->Kp W (W.putObj (w.1.size+1) o'))(E:B_ w0 w)(a4:∀x,(encs x).size=ps.size)(j:List α->z9->Prop)(B:Code->List α->z9->Prop)(C:OwnFrom w.1.size j)(q:∀c,OwnFrom w.1.size (B c))(h0:j [] w)(R:α->Act->z9->Prop)(T:∀x a',OwnFrom w.1.size (fun(_:Unit) W=>R x a' W))(f:∀(l:Nat) (b:List α) (x:α) (W:z9) (K:Act->z9->Prop),j b W->(∀a' W',KeepsFrom w.1.size W W'->Kp W W'->j b W'->R x a' W'->K a' W')->
   assign.wpIn (F.inRound l) (n-1-1) P (Exit.then K (fun _ _ _=>False)) {tmps:=(ps.zip (encs x)).foldl (fun t (p,v)=>t.setIfInBounds p v) a.tmps,defers:=[]} W) (u:∀(l:Nat) (b:List α) (x:α) (a':Act) (W:z9),w.1.size<=l->(∃r,W.1[l]?=G (.loop r))->j b W->R x a' W->b.length<N->body.wpIn (F.inRound l) (n-1-1) P (zan w.1.size Kp j B (b++[x]) W) a' W) (y:∀(D:Nat) (xs:List α) (W:z9),w.1.size<=D->S xs->j xs W->W.1[D]?=G (.deferred (G []))->Q .normal {a with defers:={target:=.collected D,args:=#[]}::a.defers} W) (z:∀(D:Nat) (c:Code) (b:List α) (W:z9),w.1.size<=D->Sp b->B c b W->W.1[D]?=G (.deferred (G []))->c.wpIn F n P Q {a with defers:={target:=.collected D,args:=#[]}::a.defers} W):
  (Code.rangeFunc g ps assign body).wpIn F n P Q a w:=by
 refine wpIn_rangeFunc fun fn a3=>?_;rw[a5];have hz:((w.alloc (.deferred (G []))).alloc (.loop {state:=.ready,pending:=zl,fn,tmps:=a.tmps,params:=ps,assign,body,defers:=w.1.size})).1.size=w.1.size+2:=by simp
 refine⟨w.1.size+1,[{target:=.collected w.1.size,args:=#[]}],((w.alloc (.deferred (G []))).alloc (.loop {state:=.ready,pending:=zl,fn,tmps:=a.tmps,params:=ps,assign,body,defers:=w.1.size})),{target:=.fn (.func gf) lb,args:=#[.func (.yield (w.1.size+1)) #[] #[]]},((w.alloc (.deferred (G []))).alloc (.loop {state:=.ready,pending:=zl,fn,tmps:=a.tmps,params:=ps,assign,body,defers:=w.1.size})),gf,#[.func (.yield (w.1.size+1)) #[] #[]]++lb,((w.alloc (.deferred (G []))).alloc (.loop {state:=.ready,pending:=zl,fn,tmps:=a.tmps,params:=ps,assign,body,defers:=w.1.size})),run_enterLoop_outer fn a.tmps ps assign body,by simp only[resolve,hg];simp[go_sem],fun f' H=>by simp[Target.leads]at H;subst H;exact U,by simp[invoke,go_sem,eg],fun _=>h1,?_⟩;have hD:((w.alloc (.deferred (G []))).alloc (.loop {state:=.ready,pending:=zl,fn,tmps:=a.tmps,params:=ps,assign,body,defers:=w.1.size})).1[w.1.size]?=G (.deferred (G [])):=(Below.heap_alloc _ _ _ (by simp)).trans (World.alloc_heap_new w _);have hL:((w.alloc (.deferred (G []))).alloc (.loop {state:=.ready,pending:=zl,fn,tmps:=a.tmps,params:=ps,assign,body,defers:=w.1.size})).1[w.1.size+1]?=G (.loop {state:=.ready,pending:=zl,fn,tmps:=a.tmps,params:=ps,assign,body,defers:=w.1.size}):=by
  have:=World.alloc_heap_new (w.alloc (.deferred (G []))) (.loop {state:=.ready,pending:=zl,fn,tmps:=a.tmps,params:=ps,assign,body,defers:=w.1.size});rwa[World.size_alloc]at this
 have hB:B_ w0 ((w.alloc (.deferred (G []))).alloc (.loop {state:=.ready,pending:=zl,fn,tmps:=a.tmps,params:=ps,assign,body,defers:=w.1.size})):=E.trans ((((zf _ w).alloc (za _) _).alloc (by simp) _).mono E.size);have a0:=C.alloc (.loop {state:=.ready,pending:=zl,fn,tmps:=a.tmps,params:=ps,assign,body,defers:=w.1.size}) (C.alloc (.deferred (G [])) h0);generalize((w.alloc (.deferred (G []))).alloc (.loop {state:=.ready,pending:=zl,fn,tmps:=a.tmps,params:=ps,assign,body,defers:=w.1.size}))=W1 at*;refine(L (w.1.size+1)
  (fun b W=>j b W/\W.1[w.1.size+1]?=G (.loop {state:=.ready,pending:=zl,fn,tmps:=a.tmps,params:=ps,assign,body,defers:=w.1.size})/\W.1[w.1.size]?=G (.deferred (G [])))
  (fun b W=>∃c,B c b W/\W.1[w.1.size+1]?=G (.loop {state:=.done,pending:=G c,fn,tmps:=a.tmps,params:=ps,assign,body,defers:=w.1.size})/\W.1[w.1.size]?=G (.deferred (G [])))
  W1 hB (by omega) (fun s X Y row J d i=>⟨C s X Y row J.1 d (fun r e=>⟨by have:=(i r e).1;omega,(i r e).2⟩),ZK d (fun r e=>(i r e).1) (by omega) J.2.1,ZK d (fun r e=>(i r e).1) (by omega) J.2.2⟩)
  (fun s X Y row J d i=>by
   obtain⟨c,M,A,O⟩:=J;exact⟨c,q c s X Y row M d (fun r e=>⟨by have:=(i r e).1;omega,(i r e).2⟩),ZK d (fun r e=>(i r e).1) (by omega) A,ZK d (fun r e=>(i r e).1) (by omega) O⟩)
  (fun b x V hv I=>?_) ⟨a0,hL,hD⟩).mono ?_
 ·obtain⟨v1,v2,v3⟩:=hv;exact zjG (P:=P) (Kp:=Kp) (n:=n-1-1) w.1.size (w.1.size+1) fn w.1.size a.tmps a3 (by omega) a4 (fun W=>W.1[w.1.size]?=G (.deferred (G []))) (fun W W' he hk=>hk.same _ _ (za _) he rfl) (fun W o he=>(World.putObj_heap_other (by omega)).trans he)
   (fun h k=>a2 h k) (fun W o o'=>a1 W o o') j B C q R T (fun b x W K=>f _ b x W K) (fun b x a' W ⟨r,i,_⟩=>u _ b x a' W (by omega) ⟨r,i⟩) b x V v1 v2 v3 I
 ·rintro e V ⟨⟨v,rfl⟩,(⟨xs,hS,M,A,O⟩|⟨b,hS,c,M,A,O⟩)⟩
  ·exact⟨zl,_,run_endLoop (P:=P) A (by simp),y _ xs _ (za _) hS (C.putObj _ M (by omega) A rfl) ((World.putObj_heap_other (by omega)).trans O)⟩
  ·exact⟨G c,_,run_endLoop (P:=P) A (by simp),z _ c b _ (za _) hS ((q c).putObj _ M (by omega) A rfl) ((World.putObj_heap_other (by omega)).trans O)⟩
theorem zmd{l₀:Nat}{r₀:Loop}(a5:F.round=G l₀)(a3:w.1[l₀]?=G (.loop r₀))(h1:1<=n)(hg:a.eval g=.func (.func gf) #[] lb)(T:F.fn gf)(eg:∀args w,(callFunc gf args).run P w=.ok (.enter gf args) w){encs:α->Array zb}{S Sp:List α->Prop}(I:Yy F (n-1) P gf lb encs Kp S Sp N m w0)(hm:m<=w.1.size+1)(a1:∀{X Y Z:z9},Kp X Y->Kp Y Z->Kp X Z)(a0:∀(W:z9) (o o':Obj),W.1[w.1.size]?=G o->o.isCells=false->o.isWalk=false->Kp W (W.putObj w.1.size o'))(D:B_ w0 w)(a4:∀x,(encs x).size=ps.size)(j:List α->z9->Prop)(C:Code->List α->z9->Prop)(L:OwnFrom w.1.size j)(y:∀c,OwnFrom w.1.size (C c))(h0:j [] w)(J:α->Act->z9->Prop)(R:∀x a',OwnFrom w.1.size (fun(_:Unit) W=>J x a' W))(d:∀(l:Nat) (b:List α) (x:α) (W:z9) (K:Act->z9->Prop),j b W->(∀a' W',KeepsFrom w.1.size W W'->Kp W W'->j b W'->J x a' W'->K a' W')->
   assign.wpIn (F.inRound l) (n-1-1) P (Exit.then K (fun _ _ _=>False)) {tmps:=(ps.zip (encs x)).foldl (fun t (p,v)=>t.setIfInBounds p v) a.tmps,defers:=[]} W) (z:∀(l:Nat) (b:List α) (x:α) (a':Act) (W:z9),w.1.size<=l->(∃r,W.1[l]?=G (.loop r))->j b W->J x a' W->b.length<N->body.wpIn (F.inRound l) (n-1-1) P (zan w.1.size Kp j C (b++[x]) W) a' W) (A:∀(xs:List α) (W:z9),S xs->j xs W->Q .normal a W) (B:∀(c:Code) (b:List α) (W:z9),Sp b->C c b W->c.wpIn F n P Q a W):
  (Code.rangeFunc g ps assign body).wpIn F n P Q a w:=by
 refine wpIn_rangeFunc fun fn a2=>?_;rw[a5];have hz:(w.alloc (.loop {state:=.ready,pending:=zl,fn,tmps:=a.tmps,params:=ps,assign,body,defers:=r₀.defers})).1.size=w.1.size+1:=by simp
 refine⟨w.1.size,[],(w.alloc (.loop {state:=.ready,pending:=zl,fn,tmps:=a.tmps,params:=ps,assign,body,defers:=r₀.defers})),{target:=.fn (.func gf) lb,args:=#[.func (.yield w.1.size) #[] #[]]},(w.alloc (.loop {state:=.ready,pending:=zl,fn,tmps:=a.tmps,params:=ps,assign,body,defers:=r₀.defers})),gf,#[.func (.yield w.1.size) #[] #[]]++lb,(w.alloc (.loop {state:=.ready,pending:=zl,fn,tmps:=a.tmps,params:=ps,assign,body,defers:=r₀.defers})),run_enterLoop_inner a3 fn a.tmps ps assign body,by simp only[resolve,hg];simp[go_sem],fun f' E=>by simp[Target.leads]at E;subst E;exact T,by simp[invoke,go_sem,eg],fun _=>h1,?_⟩;have hL:(w.alloc (.loop {state:=.ready,pending:=zl,fn,tmps:=a.tmps,params:=ps,assign,body,defers:=r₀.defers})).1[w.1.size]?=G (.loop {state:=.ready,pending:=zl,fn,tmps:=a.tmps,params:=ps,assign,body,defers:=r₀.defers}):=World.alloc_heap_new w _;have hB:B_ w0 (w.alloc (.loop {state:=.ready,pending:=zl,fn,tmps:=a.tmps,params:=ps,assign,body,defers:=r₀.defers})):=D.trans (((zf _ w).alloc (za _) _).mono D.size);have U:=L.alloc (.loop {state:=.ready,pending:=zl,fn,tmps:=a.tmps,params:=ps,assign,body,defers:=r₀.defers}) h0;generalize(w.alloc (.loop {state:=.ready,pending:=zl,fn,tmps:=a.tmps,params:=ps,assign,body,defers:=r₀.defers}))=W1 at*;refine(I w.1.size
  (fun b W=>j b W/\W.1[w.1.size]?=G (.loop {state:=.ready,pending:=zl,fn,tmps:=a.tmps,params:=ps,assign,body,defers:=r₀.defers}))
  (fun b W=>∃c,C c b W/\W.1[w.1.size]?=G (.loop {state:=.done,pending:=G c,fn,tmps:=a.tmps,params:=ps,assign,body,defers:=r₀.defers}))
  W1 hB (by omega) (fun s X Y row M f q=>⟨L s X Y row M.1 f (fun r e=>⟨by have:=(q r e).1;omega,(q r e).2⟩),ZK f (fun r e=>(q r e).1) (by omega) M.2⟩)
  (fun s X Y row M f q=>by
   obtain⟨c,u,i⟩:=M;exact⟨c,y c s X Y row u f (fun r e=>⟨by have:=(q r e).1;omega,(q r e).2⟩),ZK f (fun r e=>(q r e).1) (by omega) i⟩)
  (fun b x V hv H=>?_) ⟨U,hL⟩).mono ?_
 ·obtain⟨v1,v2⟩:=hv;refine(zjG (P:=P) (Kp:=Kp) (n:=n-1-1) w.1.size w.1.size fn r₀.defers a.tmps a2 (za _) a4 (fun _=>True) (fun _ _ _ _=>trivial) (fun _ _ _=>trivial)
   (fun h k=>a1 h k) (fun W o o'=>a0 W o o') j C L y J R (fun b x W K=>d _ b x W K) (fun b x a' W ⟨r,q,_⟩=>z _ b x a' W (za _) ⟨r,q⟩) b x V v1 v2 trivial H).mono ?_
  rintro e V' (⟨O,⟨u,i,_⟩,k3⟩|⟨O,⟨c,u,i,_⟩,k3⟩)
  ·exact .inl ⟨O,⟨u,i⟩,k3⟩
  ·exact .inr ⟨O,⟨c,u,i⟩,k3⟩
 ·rintro e V ⟨⟨v,rfl⟩,(⟨xs,hS,u,i⟩|⟨b,hS,c,u,i⟩)⟩
  ·exact⟨zl,_,run_endLoop (P:=P) i (by simp),A xs _ hS (L.putObj _ u (za _) i rfl)⟩
  ·exact⟨G c,_,run_endLoop (P:=P) i (by simp),B c b _ hS ((y c).putObj _ u (za _) i rfl)⟩
end
theorem vG(f:F.depth=zl){args:Array zb}{R:Ending->z9->Prop}(h:YieldAt F m P l args W R):YieldAt F m' P l args W R:=by
 obtain⟨fn,tmps,assign,body,g,a,b⟩:=h;exact⟨fn,tmps,assign,body,g,a,fun c cs _=>b c cs (fun d e=>by rw[f]at e;cases e)⟩
def zqq(o:Obj):Prop:=∃c a,o=.cells c 148 a
theorem zoo(h:o.isCells=false):¬zqq o:=fun⟨_,_,e⟩=>by rw[e]at h;cases h
structure KX(ex:Nat->Prop)(n m:Nat)(A B:z9):Prop where
 kept:zj (fun k=>ex k\/n<=k) A B
 walk:∀k o,¬ex k->A.1[k]?=G o->o.isWalk=true->B.1[k]?=G o
 high:∀k o,m<=k->¬zqq o->A.1[k]?=G o->B.1[k]?=G o
section
variable {ex:Nat->Prop} {n m:Nat}
theorem KX.refl(ex:Nat->Prop)(n m:Nat)(A:z9):KX ex n m A A:=⟨zj.refl _ _,fun _ _ _ h _=>h,fun _ _ _ _ h=>h⟩
theorem KX.trans{C:z9}(h:KX ex n m A B)(k:KX ex n m B C):KX ex n m A C:=⟨h.kept.trans k.kept (fun _ _ h=>h),fun i o a b c=>k.walk i o a (h.walk i o a b c) c,fun i o a hn b=>k.high i o a hn (h.high i o a hn b)⟩
theorem KX.putObj(o':Obj)(c:n<=l)(g:l<m)(h:W.1[l]?=G o)(d:o.isWalk=false):KX ex n m W (W.putObj l o'):=
 ⟨(zj.refl _ _).grown (grownBy_putObj' W l o') (fun k e _=>by cases e;exact .inr c),fun k p f a b=>by
  by_cases e:k=l
  ·subst e;rw[h]at a;cases a;rw[d]at b;cases b
  ·exact(World.putObj_heap_other e).trans a,fun k p f _ a=>(World.putObj_heap_other (show k≠l by omega)).trans a⟩
theorem KX.of_below(h:B_ A B):KX ex n m A B:=⟨zj.of_below h,fun k o _ a _=>(h.block k (zd a)).trans a,fun k o _ _ a=>(h.block k (zd a)).trans a⟩
theorem KX.setCell{i:Nat}(hn:n<=g)(c:g<m):KX ex n m W (W.setCell (U g i) v):=
 ⟨(zj.refl _ _).setCell (p:=(U g i)) (fun _=> .inr hn) v,fun k o _ a b=>(KeepsOthers.setCell W (U g i) v).same k o a (Obj.not_cells_of_walk b),fun k o d _ a=>(Below.heap_setCell _ _ _ _ (show k≠g by omega)).trans a⟩
theorem KX.wider(h:KX ex n m A B)(a:m<=m'):KX ex n m' A B:=⟨h.kept,h.walk,fun k o b=>h.high k o (zA a b)⟩
theorem KX.own{β:Type}(l:w.1.size<=q):OwnFrom q (fun(_:β) W=>KX ex n m w W):=fun s X Y row d c i=>
 have b:∀k o,w.1[k]?=G o->X.1[k]?=G o->Y.1[k]?=G o:=fun k o a h=>(c.block k (zd h) (fun e=>by have:=(i k e.symm).1;have:=zd a;omega)).trans h
 ⟨d.kept.trans (g:=fun k=>q<=k) ⟨c.os,c.tape,c.output,c.size,fun k a hn=>c.block k a (fun e=>hn (i k e.symm).1)⟩ (fun k a e=>by omega),fun k o f a j=>b k o a (d.walk k o f a j),fun k o f hn a=>b k o a (d.high k o f hn a)⟩
theorem KX.grown(b:W.grownBy W' row)(g:∀r,row=G r->(ex r\/n<=r)/\∃c d,W.1[r]?=G (.cells c 148 d)):KX ex n m W W':=
 ⟨⟨b.os,b.tape,b.output,b.size,fun k a hn=>b.block k a (fun e=>hn (g k e.symm).1)⟩,
  fun k o _ a h=>(b.block k (zd a) (fun e=>by obtain⟨-,c,d,f⟩:=g k e.symm;rw[f]at a;cases a;cases h)).trans a,
  fun k o _ hn a=>(b.block k (zd a) (fun e=>by obtain⟨-,c,d,f⟩:=g k e.symm;rw[f]at a;cases a;exact hn ⟨_,_,rfl⟩)).trans a⟩
theorem KX.from(h:KX ex n m A B)(d:m<=q):KeepsFrom q A B:=⟨h.kept.size,fun k o c a b=>h.high k o (zA d c) (zoo b) a⟩
theorem KX.low(h:KX ex n m A B)(c:k<n)(b:¬ex k)(a:k<A.1.size):B.1[k]?=A.1[k]?:=h.kept.block k a (fun e=>e.elim b (by omega))
end
def Z8{α:Type}(ex:Nat->Prop)(n:Nat)(P:Program)(g:Nat)(lb:Array zb)(encs:α->Array zb)(S:List α->Prop)(N:Nat)(w:z9):Prop:=
 ∀m,w.1.size<=m->Yy Fence.wide 6 P g lb encs (KX ex n m) S (fun _=>True) N m w
end
section
open Go.RowKit Go.Maps
open Go.ChangeMaps (setBlock modify_eq_set)
variable {es:Array MapEntry} {b clock:Nat} {w w':z9}
structure MK(α β:Type) where
 P:Program
 T:TypeId
 K:TypeId
 E:TypeId
 ke:α->zb
 ve:β->zb
 wf:α->Prop
 z:zb
structure MK.Ok{α β:Type}(M:MK α β):Prop where
 law:Keyed M.P M.K
 und:M.P.underlying M.T=G (.map M.K M.E)
 key:∀a,M.wf a->∃kl,keyOf M.P M.K (M.ke a)=G kl
 inj:∀a b,M.ke a=M.ke b->a=b
 zero:∀w,(zeroValue M.E).run M.P w=.ok M.z w
section
variable {α β:Type}
def zx(L:List (α×β)):List α:=L.map (·.1)
structure ju(M:MK α β)(es:Array MapEntry)(clock:Nat)(L:List (α×β)):Prop where
 kv:es.toList.map (fun e=>(e.key,e.val))=L.map (fun p=>(M.ke p.1,M.ve p.2))
 born:∀e∈es.toList,e.born<clock
 once:(es.toList.map (·.born)).Nodup
 wf:∀p∈L,M.wf p.1
 nodup:(zx L).Nodup
 size:es.size<=maxLen
def xn(M:MK α β)(w:z9)(b:Nat)(L:List (α×β)):Prop:=∃es clock,w.1[b]?=G (.map es clock)/\ju M es clock L
variable {M:MK α β}
theorem xn.lt{L:List (α×β)}(h:xn M w b L):b<w.1.size:=by
 obtain⟨es,clock,a,_⟩:=h;exact zd a
theorem xn.kept{f:Nat->Prop}{L:List (α×β)}(h:xn M w b L)(d:zj f w w')(hn:¬f b):xn M w' b L:=by
 obtain⟨es,clock,a,c⟩:=h;exact⟨es,clock,d.heap a hn,c⟩
theorem xn.later{L:List (α×β)}(h:xn M w b L)(a:B_ w w'):xn M w' b L:=
 h.kept (f:=fun _=>False) (zj.of_below a) (fun h=>h)
theorem xn.wf{L:List (α×β)}(h:xn M w b L):∀p∈L,M.wf p.1:=by obtain⟨es,clock,c,a⟩:=h;exact a.wf
theorem xn.nodup{L:List (α×β)}(h:xn M w b L):(zx L).Nodup:=by obtain⟨es,clock,c,a⟩:=h;exact a.nodup
theorem xn.made(w:z9):xn M (w.alloc (.map #[] 0)) w.1.size []:=⟨#[],0,World.alloc_heap_new w _,⟨rfl,by simp,by simp,by simp,by simp[zx],by simp⟩⟩
theorem xn.same{L:List (α×β)}(h:xn M w b L)(c:w'.1[b]?=w.1[b]?):xn M w' b L:=by
 obtain⟨es,clock,a,d⟩:=h;exact⟨es,clock,c.trans a,d⟩
theorem ju.keys(ok:M.Ok){L:List (α×β)}(h:ju M es clock L):∀e∈es.toList,∃l,keyOf M.P M.K e.key=G l:=fun e b=>by
 have c:(e.key,e.val)∈L.map (fun p=>(M.ke p.1,M.ve p.2)):=h.kv▸List.mem_map.2 ⟨e,b,rfl⟩;obtain⟨p,d,a⟩:=List.mem_map.1 c;injection a with a f;rw[<-a];exact ok.key _ (h.wf p d)
theorem ju.at{L:List (α×β)}(h:ju M es clock L){j:Nat}{e:MapEntry}(c:es.toList[j]?=G e):∃p,L[j]?=G p/\e.key=M.ke p.1/\e.val=M.ve p.2:=by
 have a:(es.toList.map (fun e=>(e.key,e.val)))[j]?=G (e.key,e.val):=by simp[c]
 rw[h.kv,List.getElem?_map]at a;cases b:L[j]? with
 |none=>simp[b]at a
 |some p=>
  rw[b]at a;simp at a;exact⟨p,rfl,a.1.symm,a.2.symm⟩
theorem ju.absent{L:List (α×β)}(h:ju M es clock L){s:α}(c:∀e∈es.toList,e.key≠M.ke s):s∉zx L:=fun d=>by
 obtain⟨p,f,e⟩:=List.mem_map.1 (show s∈L.map (·.1)from d);have a:(M.ke p.1,M.ve p.2)∈es.toList.map (fun e=>(e.key,e.val)):=h.kv▸List.mem_map.2 ⟨p,f,rfl⟩;obtain⟨x,g,ex⟩:=List.mem_map.1 a;injection ex with b i;exact c x g (by rw[b,e])
theorem ju.count{L:List (α×β)}(h:ju M es clock L):es.size=L.length:=by
 have:=congrArg List.length h.kv;simpa using this
theorem zmj(ok:M.Ok){L:List (α×β)}(h:xn M w b L)(d:TypeId):(Builtin.len_ #[M.T] d #[.map (G b)]).run M.P w=.ok (I L.length) w:=by
 obtain⟨es,clock,a,c⟩:=h;have:=c.count;simp[Builtin.len_,run_underlying ok.und,MapKept.run_getObj_map a,goInt,Result.andThen,this]
end
section
variable {α β:Type} [DecidableEq α]
def zU(L:List (α×β))(a:α):Option β:=(L.find? (fun p=>decide (p.1=a))).map (·.2)
def qM(L:List (α×β))(a:α)(v:β):List (α×β):=if a∈zx L then L.map (fun p=>if p.1=a then(a,v)else p)else L++[(a,v)]
def xB(L:List (α×β))(a:α):List (α×β):=L.filter (fun p=>decide (p.1≠a))
theorem xO{L:List (α×β)}{a:α}:zU L a=zl↔a∉zx L:=by
 unfold zU zx;rw[Option.map_eq_none_iff,List.find?_eq_none];constructor
 ·intro h c;obtain⟨p,b,e⟩:=List.mem_map.1 c;exact h p b (by simpa using e)
 ·intro h p b e;exact h (List.mem_map.2 ⟨p,b,by simpa using e⟩)
theorem zP{L:List (α×β)}{a:α}{v:β}(h:zU L a=G v):(a,v)∈L:=by
 unfold zU at h;obtain⟨p,b,e⟩:=Option.map_eq_some_iff.1 h;have c:=List.mem_of_find?_eq_some b;have d:=List.find?_some b;have f:p.1=a:=by simpa using d
 subst f;subst e;exact c
theorem xF{L:List (α×β)}(hn:(zx L).Nodup){a:α}{v:β}(h:(a,v)∈L):zU L a=G v:=by
 cases g:zU L a with
 |none=>exact absurd (List.mem_map.2 ⟨_,h,rfl⟩) (xO.1 g)
 |some u=>
  have m:=zP g;have d:L.Pairwise (fun a b=>a.1≠b.1):=List.pairwise_map.1 hn;obtain⟨i,k,f⟩:=List.getElem_of_mem m;obtain⟨j,l,e⟩:=List.getElem_of_mem h;rcases Nat.lt_trichotomy i j with c|c|c
  ·have:=List.pairwise_iff_getElem.1 d i j k l c;rw[f,e]at this;exact absurd rfl this
  ·subst c;rw[f]at e;cases e;rfl
  ·have:=List.pairwise_iff_getElem.1 d j i l k c;rw[f,e]at this;exact absurd rfl this
theorem xz{L:List (α×β)}{a:α}{v:β}{k:α}:k∈zx (qM L a v)↔k∈zx L\/k=a:=by
 unfold qM;split;next h=>
  have e:zx (L.map (fun p=>if p.1=a then(a,v)else p))=zx L:=by
   unfold zx;rw[List.map_map];apply List.map_congr_left;intro p _;by_cases c:p.1=a<;>simp[c]
  rw[e];exact⟨.inl,fun b=>b.elim id (fun e=>e▸h)⟩
 next h=>simp[zx]
theorem ziv{L:List (α×β)}{a:α}{v:β}:zx (qM L a v)=if a∈zx L then zx L else zx L++[a]:=by
 unfold qM;split;next h=>
  unfold zx;rw[List.map_map];apply List.map_congr_left;intro p _;by_cases b:p.1=a<;>simp[b]
 next h=>simp[zx]
theorem qY{L:List (α×β)}{a:α}{v:β}(h:(zx L).Nodup):(zx (qM L a v)).Nodup:=by
 rw[ziv];split;next=>exact h
 next hn=>
  rw[List.nodup_append];refine⟨h,by simp,fun x b y c e=>?_⟩;simp at c;rw[c]at e;rw[e]at b;exact hn b
theorem yB{L:List (α×β)}{a:α}{v:β}{p:α×β}(h:p∈qM L a v):p=(a,v)\/(p∈L/\p.1≠a):=by
 unfold qM at h;split at h;next hin=>
  obtain⟨q,c,e⟩:=List.mem_map.1 h;by_cases b:q.1=a
  ·rw[if_pos b]at e;exact .inl e.symm
  ·rw[if_neg b]at e;subst e;exact .inr ⟨c,b⟩
 next hn=>
  rcases List.mem_append.1 h with h|h
  ·exact .inr ⟨h,fun e=>hn (List.mem_map.2 ⟨p,h,e⟩)⟩
  ·simp at h;exact .inl h
theorem jU{L:List (α×β)}(hn:(zx L).Nodup)(a:α)(v:β)(k:α):zU (qM L a v) k=if k=a then G v else zU L k:=by
 have c:=qY (a:=a) (v:=v) hn;split;next h=>
  subst h;refine xF c ?_;unfold qM;split;next hin=>
   obtain⟨q,f,e⟩:=List.mem_map.1 hin;exact List.mem_map.2 ⟨q,f,by rw[if_pos e]⟩
  next=>simp
 next h=>
  cases d:zU L k with
  |none=>exact xO.2 (fun b=>by
   rcases xz.1 b with b|b
   ·exact xO.1 d b
   ·exact h b)
  |some u=>
   refine xF c ?_;have b:=zP d;unfold qM;split;next=>exact List.mem_map.2 ⟨_,b,by rw[if_neg h]⟩
   next=>exact List.mem_append_left _ b
theorem xg{L:List (α×β)}{a:α}{p:α×β}:p∈xB L a↔p∈L/\p.1≠a:=by unfold xB;simp
theorem KG{L:List (α×β)}{a:α}:zx (xB L a)=(zx L).filter (fun k=>decide (k≠a)):=by
 unfold zx xB;rw[List.filter_map];rfl
theorem qI{L:List (α×β)}{a:α}(h:(zx L).Nodup):(zx (xB L a)).Nodup:=by rw[KG];exact h.filter _
theorem zex{L:List (α×β)}(hn:(zx L).Nodup)(a k:α):zU (xB L a) k=if k=a then zl else zU L k:=by
 split;next h=>
  subst h;exact xO.2 (by rw[KG];simp)
 next h=>
  cases b:zU L k with
  |none=>exact xO.2 (by rw[KG];simp;intro c;exact absurd c (xO.1 b))
  |some u=>exact xF (qI hn) (xg.2 ⟨zP b,h⟩)
theorem vN{L:List (α×β)}{a:α}{v:β}:(qM L a v).length=if a∈zx L then L.length else L.length+1:=by
 unfold qM;split<;>simp
theorem Vy{L:List (α×β)}{a:α}:(xB L a).length<=L.length:=List.length_filter_le _ _
variable {M:MK α β}
def znQ(M:MK α β)(c:Bool)(o:Option β):zb:=match o with
 |none=>if c then .tuple #[M.z,.bool false]else M.z
 |some v=>if c then .tuple #[M.ve v,.bool true]else M.ve v
theorem kV(ok:M.Ok)(c:Bool){L:List (α×β)}(h:xn M w b L){s:α}(o:M.wf s):
  (Instr.lookup M.T (.map (G b)) (M.ke s) c).run M.P w=.ok (znQ M c (zU L s)) w:=by
 obtain⟨es,clock,k,d⟩:=h;obtain⟨r,a⟩:=ok.key s o;rcases ok.law.find w a es.toList (d.keys ok)with⟨e,f⟩|⟨j,q,e,f,l⟩
 ·have g:zU L s=zl:=xO.2 (d.absent f);simp[Instr.lookup,run_underlying ok.und,MapKept.run_getObj_map k,ok.law.check w _ a,e,ok.zero w,Result.andThen,znQ,g]
 ·obtain⟨p,n,m,hv⟩:=d.at f;have i:p.1=s:=ok.inj _ _ (m.symm.trans l);have g:zU L s=G p.2:=by rw[<-i];exact xF d.nodup (List.mem_of_getElem? n)
  simp[Instr.lookup,run_underlying ok.und,MapKept.run_getObj_map k,ok.law.check w _ a,e,Result.andThen,znQ,g,hv]
theorem xY(o:Obj):zj (fun k=>k=b) w (setBlock w b o):=⟨rfl,rfl,rfl,by simp[setBlock],fun k c a=>by
  simp only[setBlock];rw[Array.getElem?_setIfInBounds_ne (fun e=>a e.symm)]⟩
theorem jJ(ok:M.Ok){L:List (α×β)}(h:xn M w b L)(K:L.length<maxLen){s:α}(N:M.wf s)(v:β):
  ∃o,(Instr.mapUpdate M.T (.map (G b)) (M.ke s) (M.ve v)).run M.P w=.ok () (setBlock w b o)/\xn M (setBlock w b o) b (qM L s v)/\zj (fun k=>k=b) w (setBlock w b o)/\o.isCells=false:=by
 have F:=h.lt;have y:∀o,(setBlock w b o).1[b]?=G o:=fun o=>by simp[setBlock,F]
 obtain⟨es,clock,C,d⟩:=h;obtain⟨kl,n⟩:=ok.key s N;rcases ok.law.find w n es.toList (d.keys ok)with⟨E,t⟩|⟨j,u,E,t,S⟩
 ·have W:s∉zx L:=d.absent t;refine⟨.map (es.push ⟨M.ke s,M.ve v,clock⟩) (clock+1),?_,⟨_,_,y _,?_⟩,xY _,rfl⟩
  ·simp[Instr.mapUpdate,run_underlying ok.und,MapKept.run_getObj_map C,ok.law.check w false n,E,MapKept.run_setObj_map _ C,Result.andThen,setBlock]
  ·have g:qM L s v=L++[(s,v)]:=(by unfold qM;rw[if_neg W]);refine⟨by rw[g];simp[d.kv],?_,?_,?_,qY d.nodup,by have:=d.count;simp;omega⟩
   ·intro x m;simp at m;rcases m with m|rfl
    ·have:=d.born x (by simpa using m);omega
    ·simp
   ·rw[Array.toList_push,List.map_append,List.nodup_append];refine⟨d.once,by simp,fun a V c U=>?_⟩;simp at U;subst U;obtain⟨x,m,rfl⟩:=List.mem_map.1 V;have:=d.born x m;omega
   ·rw[g];intro p g;rcases List.mem_append.1 g with g|g
    ·exact d.wf p g
    ·simp at g;subst g;exact N
 ·obtain⟨p,g,Z,hv⟩:=d.at t;have r:p.1=s:=ok.inj _ _ (Z.symm.trans S);have Y:es[j]?=G u:=by simpa using t
  have H:s∈zx L:=by unfold zx;exact List.mem_map.2 ⟨p,List.mem_of_getElem? g,r⟩
  have f:(es.modify j (fun D=>{D with key:=M.ke s,val:=M.ve v})).toList=es.toList.set j {u with key:=M.ke s,val:=M.ve v}:=by rw[Array.toList_modify,modify_eq_set _ _ _ _ t]
  refine⟨.map (es.modify j (fun D=>{D with key:=M.ke s,val:=M.ve v})) clock,?_,⟨_,_,y _,?_⟩,xY _,rfl⟩
  ·simp[Instr.mapUpdate,run_underlying ok.und,MapKept.run_getObj_map C,ok.law.check w false n,E,Y,S,ok.law.stays w n,MapKept.run_setObj_map _ C,Result.andThen,setBlock]
  ·have A:qM L s v=L.set j (s,v):=by
    unfold qM;rw[if_pos H];apply List.ext_getElem?;intro i;rw[List.getElem?_map,List.getElem?_set];by_cases e:j=i
    ·subst e;have l:j<L.length:=(List.getElem?_eq_some_iff.1 g).1;rw[g];simp only[Option.map_some,r,if_true,l]
    ·rw[if_neg e];cases X:L[i]? with
     |none=>simp
     |some q=>
      have I:q.1≠s:=fun R=>by
       have B:L.Pairwise (fun a b=>a.1≠b.1):=List.pairwise_map.1 d.nodup;obtain⟨z,O⟩:=List.getElem?_eq_some_iff.1 X;obtain⟨l,Q⟩:=List.getElem?_eq_some_iff.1 g;rcases Nat.lt_or_gt_of_ne e with h|h
       ·have:=List.pairwise_iff_getElem.1 B j i l z h;rw[O,Q]at this;exact this (r.trans R.symm)
       ·have:=List.pairwise_iff_getElem.1 B i j z l h;rw[O,Q]at this;exact this (R.trans r.symm)
      simp[I]
   refine⟨?_,?_,?_,?_,qY d.nodup,by simpa using d.size⟩
   ·rw[f,A,List.map_set,List.map_set,d.kv]
   ·intro x m;rw[f]at m;rcases List.mem_or_eq_of_mem_set m with m|rfl
    ·exact d.born x m
    ·exact d.born u (List.mem_of_getElem? t)
   ·rw[f,List.map_set];have:(es.toList.map (·.born)).set j u.born=es.toList.map (·.born):=by
     apply List.ext_getElem?;intro i;rw[List.getElem?_set];by_cases e:j=i
     ·subst e;have l:j<es.toList.length:=(List.getElem?_eq_some_iff.1 t).1;simp only[List.length_map,l,if_true,List.getElem?_map,t,Option.map_some]
     ·rw[if_neg e]
    show((es.toList.map (·.born)).set j u.born).Nodup;rw[this];exact d.once
   ·intro q J;rcases yB J with rfl|⟨J,_⟩
    ·exact N
    ·exact d.wf q J
theorem YT(ok:M.Ok){L:List (α×β)}(C:w.1[b]?=G (.map es clock))(f:ju M es clock L){s:α}(X:M.wf s)(Z:TypeId):
  ∃l,(Builtin.delete_ #[M.T,M.K] Z #[.map (G b),M.ke s]).run M.P w=.ok (.tuple #[]) (setBlock w b (.map l clock))/\ju M l clock (xB L s)/\(∀e,e∈l.toList↔e∈es.toList/\e.key≠M.ke s):=by
 obtain⟨kl,m⟩:=ok.key s X;rcases ok.law.find w m es.toList (f.keys ok)with⟨E,t⟩|⟨j,e0,E,t,O⟩
 ·have U:s∉zx L:=f.absent t;have F:xB L s=L:=by
   unfold xB;rw[List.filter_eq_self];intro p z;simp;intro e;exact U (List.mem_map.2 ⟨p,z,e⟩)
  refine⟨es,?_,by rw[F];exact f,fun e=>⟨fun h=>⟨h,t e h⟩,fun h=>h.1⟩⟩;simp[Builtin.delete_,run_underlying ok.und,MapKept.run_getObj_map C,ok.law.check w _ m,E,MapKept.run_setObj_map _ C,Result.andThen,setBlock]
 ·obtain⟨p,z,W,hv⟩:=f.at t;have o:p.1=s:=ok.inj _ _ (W.symm.trans O);have H:j<es.toList.length:=(List.getElem?_eq_some_iff.1 t).1;have I:j<es.size:=by simpa using H
  have d:(es.eraseIdxIfInBounds j).toList=es.toList.eraseIdx j:=by
   unfold Array.eraseIdxIfInBounds;rw[dif_pos I];simp
  have A:L.Pairwise (fun a b=>a.1≠b.1):=List.pairwise_map.1 f.nodup;have v:j<L.length:=(List.getElem?_eq_some_iff.1 z).1;have c:∀i q,L[i]?=G q->i≠j->q.1≠s:=fun i q g n N=>by
   obtain⟨u,r⟩:=List.getElem?_eq_some_iff.1 g;obtain⟨_,B⟩:=List.getElem?_eq_some_iff.1 z;rcases Nat.lt_or_gt_of_ne n with h|h
   ·have:=List.pairwise_iff_getElem.1 A i j u v h;rw[r,B]at this;exact this (N.trans o.symm)
   ·have:=List.pairwise_iff_getElem.1 A j i v u h;rw[r,B]at this;exact this (o.trans N.symm)
  have F:xB L s=L.eraseIdx j:=by
   have R:L=L.take j++p::L.drop (j+1):=by
    obtain⟨y,B⟩:=List.getElem?_eq_some_iff.1 z;rw[<-B,<-List.drop_eq_getElem_cons y];exact(List.take_append_drop j L).symm
   have Y:∀q∈L.take j,q.1≠s:=fun q k=>by
    obtain⟨i,g,r⟩:=List.getElem_of_mem k;have V:i<j:=(by simp at g;omega);exact c i q (by rw[<-r];simp[List.getElem_take]) (by omega)
   have t2:∀q∈L.drop (j+1),q.1≠s:=fun q k=>by
    obtain⟨i,g,r⟩:=List.getElem_of_mem k;exact c (j+1+i) q (by rw[<-r];simp at g ⊢) (by omega)
   rw[List.eraseIdx_eq_take_drop_succ];unfold xB
   conv=>lhs;rw[R]
   rw[List.filter_append,List.filter_cons_of_neg (by simp[o]),List.filter_eq_self.2 (fun q k=>by simpa using Y q k),List.filter_eq_self.2 (fun q k=>by simpa using t2 q k)]
  refine⟨es.eraseIdxIfInBounds j,?_,⟨?_,?_,?_,?_,qI f.nodup,?_⟩,?_⟩
  ·simp[Builtin.delete_,run_underlying ok.und,MapKept.run_getObj_map C,ok.law.check w _ m,E,MapKept.run_setObj_map _ C,Result.andThen,setBlock]
  ·rw[d,F,Go.ChangeMaps.map_eraseIdx,Go.ChangeMaps.map_eraseIdx,f.kv]
  ·intro x Q;rw[d]at Q;exact f.born x ((List.eraseIdx_sublist _ _).subset Q)
  ·rw[d];exact f.once.sublist ((List.eraseIdx_sublist _ _).map _)
  ·intro q k;exact f.wf q (xg.1 k).1
  ·have:=MapFrom.size_erase es j;have:=f.size;omega
  ·intro e;rw[d];constructor
   ·intro h;refine⟨(List.eraseIdx_sublist _ _).subset h,fun D=>?_⟩;obtain⟨i,n,g⟩:=List.mem_eraseIdx_iff_getElem?.1 h;obtain⟨q,k,J,_⟩:=f.at g;exact c i q k n (ok.inj _ _ (J.symm.trans D))
   ·rintro⟨h,D⟩;obtain⟨i,g⟩:=List.mem_iff_getElem?.1 h;refine List.mem_eraseIdx_iff_getElem?.2 ⟨i,fun S=>?_,g⟩;subst S;rw[t]at g;cases g;exact D O
end
end
section
open Go.RowKit Go.Maps Go.Shelf
variable {lb:Array zb} {S:List SX->Prop} {B N g m n n':Nat} {ex:Nat->Prop} {P:Program} {A W W' w w':z9}
attribute [local go_sem] Oper.semAt_some
structure Lse where
 kd:Int
 s:Sg
 slot:Int
 til:Int
structure Tsk where
 rl:Bool
 s:Sg
 si:Int
 tc:Int
 rest:Int
def Tsk.jt(x:Tsk):TypeId:=if x.rl then 195 else 197
abbrev jZz(x:Tsk):zb:=.iface x.jt (.agg #[I x.s.t,I x.s.se,I x.s.we])
abbrev tZz(x:Tsk):Array zb:=#[jZz x,I x.si,I x.tc,I x.rest]
abbrev lZz(x:Lse):Array zb:=#[I x.kd,I x.s.t,I x.s.se,I x.s.we,I x.slot,I x.til]
theorem zfK(h:B_ W W'):W.grownBy W' zl:=⟨h.os,h.tape,h.output,h.size,fun k a _=>h.block k a⟩
theorem xc{β:Type}{J:β->z9->Prop}(h:OwnFrom B J){s:β}(b:J s W)(a:B_ W W'):J s W':=h s W W' zl b (zfK a) (fun r e=>by cases e)
theorem yA{α:Type}{p:α->Bool}{l:List α}{x:α}(h:p x=true):(l++[x]).filter p=l.filter p++[x]:=by simp[h]
theorem ym{α:Type}{p:α->Bool}{l:List α}{x:α}(h:p x=false):(l++[x]).filter p=l.filter p:=by simp[h]
theorem yK{α:Type}(p:α->Bool)(l:List α):(l.filter p).length<=l.length:=List.length_filter_le _ _
theorem qB{B:z9}(h:KX ex n m A B){k:Nat}{o:Obj}(a:A.1[k]?=G o)(b:k<n)(c:¬ex k):B.1[k]?=G o:=(h.low b c (zd a)).trans a
theorem zu(h:B_ W W'):KeepsFrom B W W':=(yF h).from B
theorem zkB(gf:Nat)(lb:Array zb)(eg:∀args w,(callFunc gf args).run prog w=.ok (.enter gf args) w)(hf:Nat)(ad hc:Array zb)(eh:∀args w,(callFunc hf args).run prog w=.ok (.enter hf args) w)(p:SX->Bool)(Bl V:Nat)(w:z9)(hn:n<=w.1.size)(aC:Bl<n/\¬ex Bl)(af:V<n/\¬ex V)(c1:w.1[Bl]?=G (.cells #[.func (.func gf) #[] lb] 150 (0,0)))(c2:w.1[V]?=G (.cells #[.func (.func hf) ad hc] 158 (0,0)))(ag:∀(x:SX) (W:z9),(∃m,KX ex n m w W)->Calls prog hf (ad++#[.agg (xZz x)]++hc) W fun e W'=>e=.returned (.bool (p x))/\B_ W W')(I:Z8 ex n prog gf lb (fun x:SX=>#[.agg (xZz x)]) S N w):
  Z8 ex n prog 225 #[(O Bl),(O V)] (fun x:SX=>#[.agg (xZz x)]) (fun ys=>∃xs,S xs/\ys=xs.filter p) N w:=by
 intro m hm l J Jx z hW aF hJ aa hY h0;have d1:=(hW.block Bl (zd c1)).trans c1;have d2:=(hW.block V (zd c2)).trans c2;obtain⟨e1,-⟩:=zc d1;have aE:=zd d1;have ai:=hW.size;have aq:=ze ag;have a6:=ze I;have ao:=ze eg;have ap:=ze eh;have an:=ze c2;have HJ:=ze hJ;have a3:=ze aa;have HY:=ze hY;have a:B_ z (z.alloc (.cells #[.func (.yield l) #[] #[]] 158)):=(zf _ _).alloc (za _) _;have al:=zo z (.cells #[.func (.yield l) #[] #[]] 158);have ah:=zE z (.cells #[.func (.yield l) #[] #[]] 158);have u:=xc hJ h0 a;have ae:KX ex n m w (z.alloc (.cells #[.func (.yield l) #[] #[]] 158)):=KX.of_below (hW.trans (a.mono ai));have ac:=hW.trans (a.mono ai);have HB:=ze ac;have a4:=ze ae;have a8:=ze al;have a7:=ze ah;have a2:=ze u;clear ag I eg eh hJ aa hY h0 d1 d2 a al ah u ae c2 ac;refine callsIn_wide.2 ((callsIn_wide (n:=7)).1 ?_);refine callsIn_of_wp_marks func225 rfl trivial ?_ rfl;simp only[ntmps225,sZz,Nat.reduceAdd,Nat.reduceSub];gi_wp2;obtain⟨t,ab⟩:∃t,(z.alloc (.cells #[.func (.yield l) #[] #[]] 158))=t:=⟨_,rfl⟩;rw[ab]at a4 a8 a7 a2 HB ⊢;clear ab;have hz:t.1.size=z.1.size+1:=ud a7;refine yk (F:=Fence.wide) (n:=7) rfl (by omega) (gf:=gf) (lb:=lb) rfl trivial ao (ud a6 (t.1.size+2) (by omega)) (za _) (fun h k=>h.trans k) (fun W o o' h hc hw=>KX.putObj o' (by omega) (by omega) h hw) HB (fun _=>rfl)
  (fun g W=>J (g.filter p) W/\KX ex n (t.1.size+2) w W/\W.1[z.1.size]?=G (.cells #[.func (.yield l) #[] #[]] 158 (0,0)))
  (fun c g W=>c=.ret/\∃q,Jx q W)
  (fun s A B row H T j=>⟨ud HJ _ A B row H.1 T (fun r e=>⟨by have:=(j r e).1;omega,(j r e).2⟩),KX.own (β:=Unit) (q:=t.1.size) (by omega) () A B row H.2.1 T j,zH H.2.2 T (fun r e=>(j r e).2)⟩)
  (fun c s A B row H T j=>⟨H.1,by obtain⟨q,hq⟩:=H.2;exact⟨q,ud a3 q A B row hq T (fun r e=>⟨by have:=(j r e).1;omega,(j r e).2⟩)⟩⟩)
  ⟨a2,a4.wider (by omega),a8⟩
  (fun x a' W=>∃X,t.1.size<=X/\W.1[X]?=G (.cells (xZz x) 148 (0,0))/\a'={tmps:=#[.func (.yield l) #[] #[],(O Bl),(O V),(O z.1.size),(O X),.func (.func gf) #[] lb,.agg (xZz x),u_,u_,u_,u_,u_,u_,u_,u_,u_],defers:=[]})
  (fun x a' s A B row H T j=>by
   obtain⟨X,h1,h2,h3⟩:=H;exact⟨X,h1,zH h2 T (fun r e=>(j r e).2),h3⟩) ?assign ?body ?done ?stop
 case assign=>
  rintro l' g x W K ⟨i1,i2,i3⟩ E;have aw:=zd i3;have ax:=i2.kept.size;have HK:=ze E;clear E;gi_wp2;have v:=(zf W.1.size W).alloc (za _) (.cells (xZz x) 148);refine ud HK _ _ (zu v) (KX.of_below v) ⟨xc HJ i1 v,i2.trans (KX.of_below v),(v.block _ aw).trans i3⟩ ⟨W.1.size,by omega,zo _ _,rfl⟩
 case body=>
  rintro l' g x a' W hl ⟨r,j⟩ ⟨i1,i2,i3⟩ ⟨X,aB,hx,rfl⟩ az;have ax:=i2.kept.size;have av:=zd hx;have am:=zd i3;have Q:=qB i2 an af.1 af.2;have ay:=zd Q;obtain⟨c1,-⟩:=zc Q;obtain⟨x0,x1,x2,x3,x4,x5,x6,x7,-⟩:=zc hx;have HC:=ze (ud aq x W ⟨_,i2⟩);have Z:=ze i1;have a0:=ze i2;have a1:=ze i3;have HX:=ze hx;have aA:=ze j;have aD:=yK p g;have au:=ud ap;clear i1 i2 i3 hx j Q;obtain⟨bx,R⟩:∃bx,p x=bx:=⟨_,rfl⟩;rw[R]at HC;have a5:=ze R;clear R;cases bx with
  |false=>
   gi_wp2;refine⟨trivial,(CallsIn.inRound l' (callsIn_wide.2 HC)).mono ?_⟩;rintro e W1 ⟨rfl,a⟩;have b:=ze a;clear a;gi_wp2;refine⟨fun _ h=>(by cases h),?_⟩;gi_wp2;exact⟨zu (ud b),KX.of_below (ud b),by rw[ym (ud a5)];exact xc HJ Z b,a0.trans (KX.of_below b),(b.block _ am).trans a1⟩
  |true=>
   gi_wp2;refine⟨trivial,(CallsIn.inRound l' (callsIn_wide.2 HC)).mono ?_⟩;rintro e W1 ⟨rfl,a⟩;have aj:=(a.block _ av).trans HX;have U:=(a.block _ am).trans a1;obtain⟨y0,-⟩:=zc U;obtain⟨z0,z1,z2,z3,z4,z5,z6,z7,-⟩:=zc aj;have Y:=ze U;have b:=ze a;have u:=xc HJ Z a;obtain⟨fn,tmps,assign,body,hy,hR⟩:=vG (m':=4) rfl (ud HY (g.filter p) x W1 u (by omega));have aG:=a.size;clear a aj U u;gi_wp2;refine RoundIn.mono (F:=Fence.wide.inRound l') hR ?_;rintro e W2 (⟨rfl,a9,f⟩|⟨rfl,C,f⟩)
   ·have d:KX ex n (t.1.size+2) W W2:=(KX.of_below b).trans (f.wider (by omega));have y:KeepsFrom t.1.size W W2:=(zu b).trans (f.from (by omega));have ak:=f.high _ _ (by omega) (fun⟨_,_,e⟩=>by cases e) Y;have i:=ze d;have P:=ze y;have ar:=ze ak;have L:=ze a9;clear d y ak a9 f;gi_wp2;exact⟨ud P,ud i,by rw[yA (ud a5)];exact ud L,a0.trans i,ar⟩
   ·have d:KX ex n (t.1.size+2) W W2:=(KX.of_below b).trans (f.wider (by omega));have y:KeepsFrom t.1.size W W2:=(zu b).trans (f.from (by omega));have i:=ze d;have P:=ze y;have L:=ze C;clear d y C f;gi_wp2;exact⟨P,i,rfl,_,L⟩
 case done=>
  rintro D xs W hD hS ⟨i1,i2,i3⟩ E;have M:=ze (OwnFrom.putObj HJ (.deferred zl) i1 (by omega) E rfl);clear i1 i2 i3;gi_wp2;refine⟨by simp,.inl ⟨_,_,rfl,run_takeDeferred E,?_⟩⟩;exact⟨_,results_none rfl _ _ _,⟨_,rfl⟩,.inl ⟨_,⟨xs,hS,rfl⟩,M⟩⟩
 case stop=>
  rintro D c g W hD hS ⟨rfl,q,hq⟩ E;have M:=ze (OwnFrom.putObj a3 (.deferred zl) hq (by omega) E rfl);clear hq;gi_wp2;refine⟨by simp,.inl ⟨_,_,rfl,run_takeDeferred E,?_⟩⟩;exact⟨_,results_none rfl _ _ _,⟨_,rfl⟩,.inr ⟨_,trivial,M⟩⟩
theorem ZH{α:Type}(d:α->Sg)(gf:Nat)(lb:Array zb)(eg:∀args w,(callFunc gf args).run prog w=.ok (.enter gf args) w)(hf:Nat)(af hc:Array zb)(eh:∀args w,(callFunc hf args).run prog w=.ok (.enter hf args) w){S:List α->Prop}(p:α->Bool)(Bl Z:Nat)(w:z9)(hn:n<=w.1.size)(aE:Bl<n/\¬ex Bl)(ah:Z<n/\¬ex Z)(c1:w.1[Bl]?=G (.cells #[.func (.func gf) #[] lb] 199 (0,0)))(c2:w.1[Z]?=G (.cells #[.func (.func hf) af hc] 206 (0,0)))(ai:∀(x:α) (W:z9),(∃m,KX ex n m w W)->Calls prog hf (af++#[.agg #[I (d x).t,I (d x).se,I (d x).we]]++hc) W fun e W'=>e=.returned (.bool (p x))/\B_ W W')(P:Z8 ex n prog gf lb (fun x:α=>#[.agg #[I (d x).t,I (d x).se,I (d x).we]]) S N w):
  Z8 ex n prog 194 #[(O Bl),(O Z)] (fun x:α=>#[.agg #[I (d x).t,I (d x).se,I (d x).we]]) (fun ys=>∃xs,S xs/\ys=xs.filter p) N w:=by
 intro m hm l J Jx E hW aH hJ ac hY h0;have d1:=(hW.block Bl (zd c1)).trans c1;have d2:=(hW.block Z (zd c2)).trans c2;obtain⟨e1,-⟩:=zc d1;have aG:=zd d1;have ak:=hW.size;have au:=ze ai;have a8:=ze P;have aq:=ze eg;have ar:=ze eh;have ap:=ze c2;have HJ:=ze hJ;have a5:=ze ac;have HY:=ze hY;have a:B_ E (E.alloc (.cells #[.func (.yield l) #[] #[]] 206)):=(zf _ _).alloc (za _) _;have an:=zo E (.cells #[.func (.yield l) #[] #[]] 206);have aj:=zE E (.cells #[.func (.yield l) #[] #[]] 206);have y:=xc hJ h0 a;have ag:KX ex n m w (E.alloc (.cells #[.func (.yield l) #[] #[]] 206)):=KX.of_below (hW.trans (a.mono ak));have ae:=hW.trans (a.mono ak);have HB:=ze ae;have a6:=ze ag;have aa:=ze an;have a9:=ze aj;have a4:=ze y;clear ai P eg eh hJ ac hY h0 d1 d2 a an aj y ag c2 ae;refine callsIn_wide.2 ((callsIn_wide (n:=7)).1 ?_);refine callsIn_of_wp_marks func194 rfl trivial ?_ rfl;simp only[ntmps194,sZz,Nat.reduceAdd,Nat.reduceSub];gi_wp2;obtain⟨v,ad⟩:∃v,(E.alloc (.cells #[.func (.yield l) #[] #[]] 206))=v:=⟨_,rfl⟩;rw[ad]at a6 aa a9 a4 HB ⊢;clear ad;have hz:v.1.size=E.1.size+1:=ud a9;refine yk (F:=Fence.wide) (n:=7) rfl (by omega) (gf:=gf) (lb:=lb) rfl trivial aq (ud a8 (v.1.size+2) (by omega)) (za _) (fun h k=>h.trans k) (fun W o o' h hc hw=>KX.putObj o' (by omega) (by omega) h hw) HB (fun _=>rfl)
  (fun i W=>J (i.filter p) W/\KX ex n (v.1.size+2) w W/\W.1[E.1.size]?=G (.cells #[.func (.yield l) #[] #[]] 206 (0,0)))
  (fun c i W=>c=.ret/\∃q,Jx q W)
  (fun s A B row M X u=>⟨ud HJ _ A B row M.1 X (fun r e=>⟨by have:=(u r e).1;omega,(u r e).2⟩),KX.own (β:=Unit) (q:=v.1.size) (by omega) () A B row M.2.1 X u,zH M.2.2 X (fun r e=>(u r e).2)⟩)
  (fun c s A B row M X u=>⟨M.1,by obtain⟨q,hq⟩:=M.2;exact⟨q,ud a5 q A B row hq X (fun r e=>⟨by have:=(u r e).1;omega,(u r e).2⟩)⟩⟩)
  ⟨a4,a6.wider (by omega),aa⟩
  (fun x a' W=>∃Bx,v.1.size<=Bx/\W.1[Bx]?=G (.cells #[I (d x).t,I (d x).se,I (d x).we] 146 (0,0))/\a'={tmps:=#[.func (.yield l) #[] #[],(O Bl),(O Z),(O E.1.size),(O Bx),.func (.func gf) #[] lb,.agg #[I (d x).t,I (d x).se,I (d x).we],u_,u_,u_,u_,u_,u_,u_,u_,u_],defers:=[]})
  (fun x a' s A B row M X u=>by
   obtain⟨Bx,h1,h2,h3⟩:=M;exact⟨Bx,h1,zH h2 X (fun r e=>(u r e).2),h3⟩) ?assign ?body ?done ?stop
 case assign=>
  rintro l' i x W K ⟨i1,i2,i3⟩ L;have ay:=zd i3;have az:=i2.kept.size;have HK:=ze L;clear L;gi_wp2;have z:=(zf W.1.size W).alloc (za _) (.cells #[I (d x).t,I (d x).se,I (d x).we] 146);refine ud HK _ _ (zu z) (KX.of_below z) ⟨xc HJ i1 z,i2.trans (KX.of_below z),(z.block _ ay).trans i3⟩ ⟨W.1.size,by omega,zo _ _,rfl⟩
 case body=>
  rintro l' i x a' W hl ⟨r,u⟩ ⟨i1,i2,i3⟩ ⟨Bx,aD,hx,rfl⟩ aB;have az:=i2.kept.size;have ax:=zd hx;have ao:=zd i3;have U:=qB i2 ap ah.1 ah.2;have aA:=zd U;obtain⟨c1,-⟩:=zc U;obtain⟨x0,x1,x2,-⟩:=zc hx;have HC:=ze (ud au x W ⟨_,i2⟩);have a1:=ze i1;have a2:=ze i2;have a3:=ze i3;have HX:=ze hx;have aC:=ze u;have aF:=yK p i;have aw:=ud ar;clear i1 i2 i3 hx u U;obtain⟨bx,V⟩:∃bx,p x=bx:=⟨_,rfl⟩;rw[V]at HC;have a7:=ze V;clear V;cases bx with
  |false=>
   gi_wp2;refine⟨trivial,(CallsIn.inRound l' (callsIn_wide.2 HC)).mono ?_⟩;rintro e W1 ⟨rfl,a⟩;have b:=ze a;clear a;gi_wp2;refine⟨fun _ h=>(by cases h),?_⟩;gi_wp2;exact⟨zu (ud b),KX.of_below (ud b),by rw[ym (ud a7)];exact xc HJ a1 b,a2.trans (KX.of_below b),(b.block _ ao).trans a3⟩
  |true=>
   gi_wp2;refine⟨trivial,(CallsIn.inRound l' (callsIn_wide.2 HC)).mono ?_⟩;rintro e W1 ⟨rfl,a⟩;have al:=(a.block _ ax).trans HX;have Y:=(a.block _ ao).trans a3;obtain⟨y0,-⟩:=zc Y;obtain⟨z0,z1,z2,-⟩:=zc al;have a0:=ze Y;have b:=ze a;have y:=xc HJ a1 a;obtain⟨fn,tmps,assign,body,hy,hR⟩:=vG (m':=4) rfl (ud HY (i.filter p) x W1 y (by omega));have aI:=a.size;clear a al Y y;gi_wp2;refine RoundIn.mono (F:=Fence.wide.inRound l') hR ?_;rintro e W2 (⟨rfl,ab,g⟩|⟨rfl,H,g⟩)
   ·have f:KX ex n (v.1.size+2) W W2:=(KX.of_below b).trans (g.wider (by omega));have C:KeepsFrom v.1.size W W2:=(zu b).trans (g.from (by omega));have am:=g.high _ _ (by omega) (fun⟨_,_,e⟩=>by cases e) a0;have j:=ze f;have T:=ze C;have av:=ze am;have Q:=ze ab;clear f C am ab g;gi_wp2;exact⟨ud T,ud j,by rw[yA (ud a7)];exact ud Q,a2.trans j,av⟩
   ·have f:KX ex n (v.1.size+2) W W2:=(KX.of_below b).trans (g.wider (by omega));have C:KeepsFrom v.1.size W W2:=(zu b).trans (g.from (by omega));have j:=ze f;have T:=ze C;have Q:=ze H;clear f C H g;gi_wp2;exact⟨T,j,rfl,_,Q⟩
 case done=>
  rintro D xs W hD hS ⟨i1,i2,i3⟩ L;have R:=ze (OwnFrom.putObj HJ (.deferred zl) i1 (by omega) L rfl);clear i1 i2 i3;gi_wp2;refine⟨by simp,.inl ⟨_,_,rfl,run_takeDeferred L,?_⟩⟩;exact⟨_,results_none rfl _ _ _,⟨_,rfl⟩,.inl ⟨_,⟨xs,hS,rfl⟩,R⟩⟩
 case stop=>
  rintro D c i W hD hS ⟨rfl,q,hq⟩ L;have R:=ze (OwnFrom.putObj a5 (.deferred zl) hq (by omega) L rfl);clear hq;gi_wp2;refine⟨by simp,.inl ⟨_,_,rfl,run_takeDeferred L,?_⟩⟩;exact⟨_,results_none rfl _ _ _,⟨_,rfl⟩,.inr ⟨_,trivial,R⟩⟩
theorem zkA(gf:Nat)(lb:Array zb)(eg:∀args w,(callFunc gf args).run prog w=.ok (.enter gf args) w)(hf:Nat)(ad hc:Array zb)(eh:∀args w,(callFunc hf args).run prog w=.ok (.enter hf args) w){S:List Lse->Prop}(p:Lse->Bool)(Bl V:Nat)(w:z9)(hn:n<=w.1.size)(aC:Bl<n/\¬ex Bl)(af:V<n/\¬ex V)(c1:w.1[Bl]?=G (.cells #[.func (.func gf) #[] lb] 166 (0,0)))(c2:w.1[V]?=G (.cells #[.func (.func hf) ad hc] 172 (0,0)))(ag:∀(x:Lse) (W:z9),(∃m,KX ex n m w W)->Calls prog hf (ad++#[.agg (lZz x)]++hc) W fun e W'=>e=.returned (.bool (p x))/\B_ W W')(I:Z8 ex n prog gf lb (fun x:Lse=>#[.agg (lZz x)]) S N w):
  Z8 ex n prog 226 #[(O Bl),(O V)] (fun x:Lse=>#[.agg (lZz x)]) (fun ys=>∃xs,S xs/\ys=xs.filter p) N w:=by
 intro m hm l J Jx z hW aF hJ aa hY h0;have d1:=(hW.block Bl (zd c1)).trans c1;have d2:=(hW.block V (zd c2)).trans c2;obtain⟨e1,-⟩:=zc d1;have aE:=zd d1;have ai:=hW.size;have aq:=ze ag;have a6:=ze I;have ao:=ze eg;have ap:=ze eh;have an:=ze c2;have HJ:=ze hJ;have a3:=ze aa;have HY:=ze hY;have a:B_ z (z.alloc (.cells #[.func (.yield l) #[] #[]] 172)):=(zf _ _).alloc (za _) _;have al:=zo z (.cells #[.func (.yield l) #[] #[]] 172);have ah:=zE z (.cells #[.func (.yield l) #[] #[]] 172);have u:=xc hJ h0 a;have ae:KX ex n m w (z.alloc (.cells #[.func (.yield l) #[] #[]] 172)):=KX.of_below (hW.trans (a.mono ai));have ac:=hW.trans (a.mono ai);have HB:=ze ac;have a4:=ze ae;have a8:=ze al;have a7:=ze ah;have a2:=ze u;clear ag I eg eh hJ aa hY h0 d1 d2 a al ah u ae c2 ac;refine callsIn_wide.2 ((callsIn_wide (n:=7)).1 ?_);refine callsIn_of_wp_marks func226 rfl trivial ?_ rfl;simp only[ntmps226,sZz,Nat.reduceAdd,Nat.reduceSub];gi_wp2;obtain⟨t,ab⟩:∃t,(z.alloc (.cells #[.func (.yield l) #[] #[]] 172))=t:=⟨_,rfl⟩;rw[ab]at a4 a8 a7 a2 HB ⊢;clear ab;have hz:t.1.size=z.1.size+1:=ud a7;refine yk (F:=Fence.wide) (n:=7) rfl (by omega) (gf:=gf) (lb:=lb) rfl trivial ao (ud a6 (t.1.size+2) (by omega)) (za _) (fun h k=>h.trans k) (fun W o o' h hc hw=>KX.putObj o' (by omega) (by omega) h hw) HB (fun _=>rfl)
  (fun g W=>J (g.filter p) W/\KX ex n (t.1.size+2) w W/\W.1[z.1.size]?=G (.cells #[.func (.yield l) #[] #[]] 172 (0,0)))
  (fun c g W=>c=.ret/\∃q,Jx q W)
  (fun s A B row H T j=>⟨ud HJ _ A B row H.1 T (fun r e=>⟨by have:=(j r e).1;omega,(j r e).2⟩),KX.own (β:=Unit) (q:=t.1.size) (by omega) () A B row H.2.1 T j,zH H.2.2 T (fun r e=>(j r e).2)⟩)
  (fun c s A B row H T j=>⟨H.1,by obtain⟨q,hq⟩:=H.2;exact⟨q,ud a3 q A B row hq T (fun r e=>⟨by have:=(j r e).1;omega,(j r e).2⟩)⟩⟩)
  ⟨a2,a4.wider (by omega),a8⟩
  (fun x a' W=>∃X,t.1.size<=X/\W.1[X]?=G (.cells (lZz x) 164 (0,0))/\a'={tmps:=#[.func (.yield l) #[] #[],(O Bl),(O V),(O z.1.size),(O X),.func (.func gf) #[] lb,.agg (lZz x),u_,u_,u_,u_,u_,u_,u_,u_,u_],defers:=[]})
  (fun x a' s A B row H T j=>by
   obtain⟨X,h1,h2,h3⟩:=H;exact⟨X,h1,zH h2 T (fun r e=>(j r e).2),h3⟩) ?assign ?body ?done ?stop
 case assign=>
  rintro l' g x W K ⟨i1,i2,i3⟩ E;have aw:=zd i3;have ax:=i2.kept.size;have HK:=ze E;clear E;gi_wp2;have v:=(zf W.1.size W).alloc (za _) (.cells (lZz x) 164);refine ud HK _ _ (zu v) (KX.of_below v) ⟨xc HJ i1 v,i2.trans (KX.of_below v),(v.block _ aw).trans i3⟩ ⟨W.1.size,by omega,zo _ _,rfl⟩
 case body=>
  rintro l' g x a' W hl ⟨r,j⟩ ⟨i1,i2,i3⟩ ⟨X,aB,hx,rfl⟩ az;have ax:=i2.kept.size;have av:=zd hx;have am:=zd i3;have Q:=qB i2 an af.1 af.2;have ay:=zd Q;obtain⟨c1,-⟩:=zc Q;obtain⟨x0,x1,x2,x3,x4,x5,-⟩:=zc hx;have HC:=ze (ud aq x W ⟨_,i2⟩);have Z:=ze i1;have a0:=ze i2;have a1:=ze i3;have HX:=ze hx;have aA:=ze j;have aD:=yK p g;have au:=ud ap;clear i1 i2 i3 hx j Q;obtain⟨bx,R⟩:∃bx,p x=bx:=⟨_,rfl⟩;rw[R]at HC;have a5:=ze R;clear R;cases bx with
  |false=>
   gi_wp2;refine⟨trivial,(CallsIn.inRound l' (callsIn_wide.2 HC)).mono ?_⟩;rintro e W1 ⟨rfl,a⟩;have b:=ze a;clear a;gi_wp2;refine⟨fun _ h=>(by cases h),?_⟩;gi_wp2;exact⟨zu (ud b),KX.of_below (ud b),by rw[ym (ud a5)];exact xc HJ Z b,a0.trans (KX.of_below b),(b.block _ am).trans a1⟩
  |true=>
   gi_wp2;refine⟨trivial,(CallsIn.inRound l' (callsIn_wide.2 HC)).mono ?_⟩;rintro e W1 ⟨rfl,a⟩;have aj:=(a.block _ av).trans HX;have U:=(a.block _ am).trans a1;obtain⟨y0,-⟩:=zc U;obtain⟨z0,z1,z2,z3,z4,z5,-⟩:=zc aj;have Y:=ze U;have b:=ze a;have u:=xc HJ Z a;obtain⟨fn,tmps,assign,body,hy,hR⟩:=vG (m':=4) rfl (ud HY (g.filter p) x W1 u (by omega));have aG:=a.size;clear a aj U u;gi_wp2;refine RoundIn.mono (F:=Fence.wide.inRound l') hR ?_;rintro e W2 (⟨rfl,a9,f⟩|⟨rfl,C,f⟩)
   ·have d:KX ex n (t.1.size+2) W W2:=(KX.of_below b).trans (f.wider (by omega));have y:KeepsFrom t.1.size W W2:=(zu b).trans (f.from (by omega));have ak:=f.high _ _ (by omega) (fun⟨_,_,e⟩=>by cases e) Y;have i:=ze d;have P:=ze y;have ar:=ze ak;have L:=ze a9;clear d y ak a9 f;gi_wp2;exact⟨ud P,ud i,by rw[yA (ud a5)];exact ud L,a0.trans i,ar⟩
   ·have d:KX ex n (t.1.size+2) W W2:=(KX.of_below b).trans (f.wider (by omega));have y:KeepsFrom t.1.size W W2:=(zu b).trans (f.from (by omega));have i:=ze d;have P:=ze y;have L:=ze C;clear d y C f;gi_wp2;exact⟨P,i,rfl,_,L⟩
 case done=>
  rintro D xs W hD hS ⟨i1,i2,i3⟩ E;have M:=ze (OwnFrom.putObj HJ (.deferred zl) i1 (by omega) E rfl);clear i1 i2 i3;gi_wp2;refine⟨by simp,.inl ⟨_,_,rfl,run_takeDeferred E,?_⟩⟩;exact⟨_,results_none rfl _ _ _,⟨_,rfl⟩,.inl ⟨_,⟨xs,hS,rfl⟩,M⟩⟩
 case stop=>
  rintro D c g W hD hS ⟨rfl,q,hq⟩ E;have M:=ze (OwnFrom.putObj a3 (.deferred zl) hq (by omega) E rfl);clear hq;gi_wp2;refine⟨by simp,.inl ⟨_,_,rfl,run_takeDeferred E,?_⟩⟩;exact⟨_,results_none rfl _ _ _,⟨_,rfl⟩,.inr ⟨_,trivial,M⟩⟩
theorem zkC{α:Type}(a:α->Tsk)(gf:Nat)(lb:Array zb)(eg:∀args w,(callFunc gf args).run prog w=.ok (.enter gf args) w)(hf:Nat)(af hc:Array zb)(eh:∀args w,(callFunc hf args).run prog w=.ok (.enter hf args) w){S:List α->Prop}(p:α->Bool)(Bl Z:Nat)(w:z9)(hn:n<=w.1.size)(aE:Bl<n/\¬ex Bl)(ah:Z<n/\¬ex Z)(c1:w.1[Bl]?=G (.cells #[.func (.func gf) #[] lb] 174 (0,0)))(c2:w.1[Z]?=G (.cells #[.func (.func hf) af hc] 179 (0,0)))(ai:∀(x:α) (W:z9),(∃m,KX ex n m w W)->Calls prog hf (af++#[.agg #[.iface (a x).jt (.agg #[I (a x).s.t,I (a x).s.se,I (a x).s.we]),I (a x).si,I (a x).tc,I (a x).rest]]++hc) W fun e W'=>e=.returned (.bool (p x))/\B_ W W')(P:Z8 ex n prog gf lb (fun x:α=>#[.agg #[.iface (a x).jt (.agg #[I (a x).s.t,I (a x).s.se,I (a x).s.we]),I (a x).si,I (a x).tc,I (a x).rest]]) S N w):
  Z8 ex n prog 157 #[(O Bl),(O Z)] (fun x:α=>#[.agg #[.iface (a x).jt (.agg #[I (a x).s.t,I (a x).s.se,I (a x).s.we]),I (a x).si,I (a x).tc,I (a x).rest]]) (fun ys=>∃xs,S xs/\ys=xs.filter p) N w:=by
 intro m hm l J Jx E hW aH hJ ac hY h0;have d1:=(hW.block Bl (zd c1)).trans c1;have d2:=(hW.block Z (zd c2)).trans c2;obtain⟨e1,-⟩:=zc d1;have aG:=zd d1;have ak:=hW.size;have au:=ze ai;have a8:=ze P;have aq:=ze eg;have ar:=ze eh;have ap:=ze c2;have HJ:=ze hJ;have a5:=ze ac;have HY:=ze hY;have b:B_ E (E.alloc (.cells #[.func (.yield l) #[] #[]] 179)):=(zf _ _).alloc (za _) _;have an:=zo E (.cells #[.func (.yield l) #[] #[]] 179);have aj:=zE E (.cells #[.func (.yield l) #[] #[]] 179);have y:=xc hJ h0 b;have ag:KX ex n m w (E.alloc (.cells #[.func (.yield l) #[] #[]] 179)):=KX.of_below (hW.trans (b.mono ak));have ae:=hW.trans (b.mono ak);have HB:=ze ae;have a6:=ze ag;have aa:=ze an;have a9:=ze aj;have a4:=ze y;clear ai P eg eh hJ ac hY h0 d1 d2 b an aj y ag c2 ae;refine callsIn_wide.2 ((callsIn_wide (n:=7)).1 ?_);refine callsIn_of_wp_marks func157 rfl trivial ?_ rfl;simp only[ntmps157,sZz,Nat.reduceAdd,Nat.reduceSub];gi_wp2;obtain⟨v,ad⟩:∃v,(E.alloc (.cells #[.func (.yield l) #[] #[]] 179))=v:=⟨_,rfl⟩;rw[ad]at a6 aa a9 a4 HB ⊢;clear ad;have hz:v.1.size=E.1.size+1:=ud a9;refine yk (F:=Fence.wide) (n:=7) rfl (by omega) (gf:=gf) (lb:=lb) rfl trivial aq (ud a8 (v.1.size+2) (by omega)) (za _) (fun h k=>h.trans k) (fun W o o' h hc hw=>KX.putObj o' (by omega) (by omega) h hw) HB (fun _=>rfl)
  (fun i W=>J (i.filter p) W/\KX ex n (v.1.size+2) w W/\W.1[E.1.size]?=G (.cells #[.func (.yield l) #[] #[]] 179 (0,0)))
  (fun c i W=>c=.ret/\∃q,Jx q W)
  (fun s A B row M X u=>⟨ud HJ _ A B row M.1 X (fun r e=>⟨by have:=(u r e).1;omega,(u r e).2⟩),KX.own (β:=Unit) (q:=v.1.size) (by omega) () A B row M.2.1 X u,zH M.2.2 X (fun r e=>(u r e).2)⟩)
  (fun c s A B row M X u=>⟨M.1,by obtain⟨q,hq⟩:=M.2;exact⟨q,ud a5 q A B row hq X (fun r e=>⟨by have:=(u r e).1;omega,(u r e).2⟩)⟩⟩)
  ⟨a4,a6.wider (by omega),aa⟩
  (fun x a' W=>∃Bx,v.1.size<=Bx/\W.1[Bx]?=G (.cells #[.iface (a x).jt (.agg #[I (a x).s.t,I (a x).s.se,I (a x).s.we]),I (a x).si,I (a x).tc,I (a x).rest] 177 (0,0))/\a'={tmps:=#[.func (.yield l) #[] #[],(O Bl),(O Z),(O E.1.size),(O Bx),.func (.func gf) #[] lb,.agg #[.iface (a x).jt (.agg #[I (a x).s.t,I (a x).s.se,I (a x).s.we]),I (a x).si,I (a x).tc,I (a x).rest],u_,u_,u_,u_,u_,u_,u_,u_,u_],defers:=[]})
  (fun x a' s A B row M X u=>by
   obtain⟨Bx,h1,h2,h3⟩:=M;exact⟨Bx,h1,zH h2 X (fun r e=>(u r e).2),h3⟩) ?assign ?body ?done ?stop
 case assign=>
  rintro l' i x W K ⟨i1,i2,i3⟩ L;have ay:=zd i3;have az:=i2.kept.size;have HK:=ze L;clear L;gi_wp2;have z:=(zf W.1.size W).alloc (za _) (.cells #[.iface (a x).jt (.agg #[I (a x).s.t,I (a x).s.se,I (a x).s.we]),I (a x).si,I (a x).tc,I (a x).rest] 177);refine ud HK _ _ (zu z) (KX.of_below z) ⟨xc HJ i1 z,i2.trans (KX.of_below z),(z.block _ ay).trans i3⟩ ⟨W.1.size,by omega,zo _ _,rfl⟩
 case body=>
  rintro l' i x a' W hl ⟨r,u⟩ ⟨i1,i2,i3⟩ ⟨Bx,aD,hx,rfl⟩ aB;have az:=i2.kept.size;have ax:=zd hx;have ao:=zd i3;have U:=qB i2 ap ah.1 ah.2;have aA:=zd U;obtain⟨c1,-⟩:=zc U;obtain⟨x0,x1,x2,x3,-⟩:=zc hx;have HC:=ze (ud au x W ⟨_,i2⟩);have a1:=ze i1;have a2:=ze i2;have a3:=ze i3;have HX:=ze hx;have aC:=ze u;have aF:=yK p i;have aw:=ud ar;clear i1 i2 i3 hx u U;obtain⟨bx,V⟩:∃bx,p x=bx:=⟨_,rfl⟩;rw[V]at HC;have a7:=ze V;clear V;cases bx with
  |false=>
   gi_wp2;refine⟨trivial,(CallsIn.inRound l' (callsIn_wide.2 HC)).mono ?_⟩;rintro e W1 ⟨rfl,b⟩;have d:=ze b;clear b;gi_wp2;refine⟨fun _ h=>(by cases h),?_⟩;gi_wp2;exact⟨zu (ud d),KX.of_below (ud d),by rw[ym (ud a7)];exact xc HJ a1 d,a2.trans (KX.of_below d),(d.block _ ao).trans a3⟩
  |true=>
   gi_wp2;refine⟨trivial,(CallsIn.inRound l' (callsIn_wide.2 HC)).mono ?_⟩;rintro e W1 ⟨rfl,b⟩;have al:=(b.block _ ax).trans HX;have Y:=(b.block _ ao).trans a3;obtain⟨y0,-⟩:=zc Y;obtain⟨z0,z1,z2,z3,-⟩:=zc al;have a0:=ze Y;have d:=ze b;have y:=xc HJ a1 b;obtain⟨fn,tmps,assign,body,hy,hR⟩:=vG (m':=4) rfl (ud HY (i.filter p) x W1 y (by omega));have aI:=b.size;clear b al Y y;gi_wp2;refine RoundIn.mono (F:=Fence.wide.inRound l') hR ?_;rintro e W2 (⟨rfl,ab,g⟩|⟨rfl,H,g⟩)
   ·have f:KX ex n (v.1.size+2) W W2:=(KX.of_below d).trans (g.wider (by omega));have C:KeepsFrom v.1.size W W2:=(zu d).trans (g.from (by omega));have am:=g.high _ _ (by omega) (fun⟨_,_,e⟩=>by cases e) a0;have j:=ze f;have T:=ze C;have av:=ze am;have Q:=ze ab;clear f C am ab g;gi_wp2;exact⟨ud T,ud j,by rw[yA (ud a7)];exact ud Q,a2.trans j,av⟩
   ·have f:KX ex n (v.1.size+2) W W2:=(KX.of_below d).trans (g.wider (by omega));have C:KeepsFrom v.1.size W W2:=(zu d).trans (g.from (by omega));have j:=ze f;have T:=ze C;have Q:=ze H;clear f C H g;gi_wp2;exact⟨T,j,rfl,_,Q⟩
 case done=>
  rintro D xs W hD hS ⟨i1,i2,i3⟩ L;have R:=ze (OwnFrom.putObj HJ (.deferred zl) i1 (by omega) L rfl);clear i1 i2 i3;gi_wp2;refine⟨by simp,.inl ⟨_,_,rfl,run_takeDeferred L,?_⟩⟩;exact⟨_,results_none rfl _ _ _,⟨_,rfl⟩,.inl ⟨_,⟨xs,hS,rfl⟩,R⟩⟩
 case stop=>
  rintro D c i W hD hS ⟨rfl,q,hq⟩ L;have R:=ze (OwnFrom.putObj a5 (.deferred zl) hq (by omega) L rfl);clear hq;gi_wp2;refine⟨by simp,.inl ⟨_,_,rfl,run_takeDeferred L,?_⟩⟩;exact⟨_,results_none rfl _ _ _,⟨_,rfl⟩,.inr ⟨_,trivial,R⟩⟩
attribute [local go_sem] Oper.semAt_some
theorem yQ{α:Type}{f:α->Int}{a:List α}{x:α}{v:zb}{t t2:TypeId}{u:zb}(h:u=I (wrap64 (vY (a.map f)+f x)))(hn:n<=w.1.size)(i1:W.1[w.1.size]?=G (.cells #[v] t (0,0)))(i2:W.1[w.1.size+1]?=G (.cells #[I (vY (a.map f))] t2 (0,0)))(i3:B_ w W)(b:B_ W w'):
  KeepsFrom B W (w'.setCell (U (w.1.size+1) 0) u)/\KX ex n (w.1.size+4) W (w'.setCell (U (w.1.size+1) 0) u)/\((w'.setCell (U (w.1.size+1) 0) u).1[w.1.size]?=G (.cells #[v] t (0,0))/\(w'.setCell (U (w.1.size+1) 0) u).1[w.1.size+1]?=G (.cells #[I (vY ((a++[x]).map f))] t2 (0,0))/\B_ w (w'.setCell (U (w.1.size+1) 0) u)):=by
 subst h;have c:=zd i1;have d:=zd i2;refine⟨((yF b).trans (KeepsOthers.setCell _ _ _)).from _,(KX.of_below b).trans (KX.setCell (by omega) (by omega)),?_,?_,i3.trans ((b.mono i3.size).setCell (p:=(U (w.1.size+1) 0)) (Nat.le_succ _) _)⟩
 ·have e:=(b.block _ c).trans i1;exact(((zf (w.1.size+1) w').setCell (p:=(U (w.1.size+1) 0)) (za _) (I (wrap64 (vY (a.map f)+f x)))).block w.1.size (Nat.lt_succ_self _)).trans e
 ·have g:=(b.block _ d).trans i2;rw[List.map_append,List.map_singleton,Qy];exact xq (i:=0) g _
theorem Z8.later{α:Type}{encs:α->Array zb}{S:List α->Prop}(h:Z8 ex n P g lb encs S N w)(a:B_ w w'):Z8 ex n P g lb encs S N w':=
 fun m d l J b W c=>h m (zA a.size d) l J b W (a.trans (c.mono a.size))
theorem KX.lower{B:z9}(h:KX ex n' m A B)(hn:n<=n'):KX ex n m A B:=⟨h.kept.mono (fun k _ e=>e.imp id (fun e=>by omega)),h.walk,h.high⟩
theorem Z8.lower{α:Type}{encs:α->Array zb}{S:List α->Prop}(h:Z8 ex n P g lb encs S N w)(hn:n<=n'):Z8 ex n' P g lb encs S N w:=
 fun m b=>(h m b).keeps (fun A B a=>a.lower hn)
theorem jP{α:Type}(xs:List α)(h:xs.length<=9223372036854775807):vY (xs.map (fun _=>(1:Int)))=xs.length:=by
 have e:qr (xs.map (fun _=>(1:Int)))=xs.length:=by
  induction xs with
  |nil=>rfl
  |cons x xs a=>simp only[List.map_cons,qr,List.length_cons]at*;rw[a (by omega)];omega
 rw[vF (by rw[e];omega),e]
theorem zmr(gf:Nat)(lb:Array zb)(eg:∀args w,(callFunc gf args).run prog w=.ok (.enter gf args) w)(f:SX->Int)(w:z9)(hn:n<=w.1.size)(L:∀(x:SX) (W:z9),B_ w W->Calls prog 89 #[.agg (xZz x)] W fun e W'=>e=.returned (I (f x))/\B_ W W')(j:Z8 ex n prog gf lb (fun x:SX=>#[.agg (xZz x)]) S N w):
  Calls prog 87 #[.func (.func gf) #[] lb,.func (.func 89) #[] #[]] w fun e w'=>∃xs,S xs/\e=.returned (I (vY (xs.map f)))/\B_ w w':=by
 have v:=ze L;have y:=ze j;have T:=ze eg;obtain⟨b1,b2,H,bz⟩:=box2 w (.cells #[.func (.func 89) #[] #[]] 156) zkK;clear L j eg;refine(callsIn_wide (n:=7)).1 ?_;refine callsIn_of_wp_marks func87 rfl trivial ?_ rfl;simp only[ntmps87,sZz,Nat.reduceAdd,Nat.reduceSub];have Y:=ze b1;have B2:=ze b2;have m:=ze H;have Z:=ze bz;clear b1 b2 H bz;gi_wp2;obtain⟨X,C⟩:∃X,((w.alloc (.cells #[.func (.func 89) #[] #[]] 156)).alloc zkK)=X:=⟨_,rfl⟩;rw[C]at Y B2 m Z ⊢;clear C;have hz:X.1.size=w.1.size+2:=ud Z;refine yk (F:=Fence.wide) (n:=7) rfl (by omega) (gf:=gf) (lb:=lb) rfl trivial T (ud y (w.1.size+4) (by omega)) (by omega) (fun h k=>h.trans k) (fun W o o' h hc hw=>KX.putObj o' (by omega) (by omega) h hw) m (fun _=>rfl)
  (fun b W=>W.1[w.1.size]?=G (.cells #[.func (.func 89) #[] #[]] 156 (0,0))/\W.1[w.1.size+1]?=G (.cells #[I (vY (b.map f))] 3 (0,0))/\B_ w W)
  (fun _ _ _=>False)
  (fun s A B row i J t=>⟨zH i.1 J (fun r e=>(t r e).2),zH i.2.1 J (fun r e=>(t r e).2),i.2.2.grown J (i.2.2.size) (fun k e=>by have:=(t k e).1;omega)⟩)
  (fun _ _ _ _ _ i _ _=>i)
  ⟨Y,B2,m⟩
  (fun x a' W=>∃q,w.1.size+2<=q/\W.1[q]?=G (.cells (xZz x) 148 (0,0))/\a'={tmps:=#[.func (.func gf) #[] lb,.func (.func 89) #[] #[],u_,(O w.1.size),I 0,(O (w.1.size+1)),(O q),.func (.func gf) #[] lb,.agg (xZz x),u_,u_,u_,u_,u_,u_],defers:=[]})
  (fun x a' s A B row i J t=>by
   obtain⟨q,h1,h2,h3⟩:=i;exact⟨q,h1,zH h2 J (fun r e=>(t r e).2),h3⟩) ?assign ?body ?done ?stop
 case assign=>
  rintro l b x W K ⟨i1,i2,i3⟩ z;have P:=i3.size;have a2:=zd i2;have HK:=ze z;clear z;gi_wp2;have E:=(zf W.1.size W).alloc (za _) (.cells (xZz x) 148);refine ud HK _ _ (zu E) (KX.of_below E) ⟨(Below.heap_alloc _ _ _ (by omega)).trans i1,(Below.heap_alloc _ _ _ (by omega)).trans i2,i3.alloc P _⟩ ⟨W.1.size,by omega,zo _ _,rfl⟩
 case body=>
  rintro l b x a' W hl ⟨r,t⟩ ⟨i1,i2,i3⟩ ⟨q,a0,Q,rfl⟩ a3;have P:=i3.size;have a1:=zd Q;have M:=zd i2;obtain⟨c1,-⟩:=zc i1;obtain⟨c2,-⟩:=zc i2;have f2:W.frozen? (U (w.1.size+1) 0)=false:=zI i2 0;obtain⟨x0,x1,x2,x3,x4,x5,x6,x7,-⟩:=zc Q;have V:=ze i2;have u:=ze i1;have d:=ze i3;have HX:=ze Q;have a4:prog.follows .mixedOrders=true:=by kernel_rfl
  have HC:=ze (ud v x W i3);have R:=ze (ud v x W.drew i3.drew);clear i1 i2 i3 Q;gi_wp2
  gi_region_with_o (refine⟨trivial,?_⟩;gi_at_call 89;(first|refine(CallsIn.inRound l (callsIn_wide.2 HC)).mono ?_|refine(CallsIn.inRound l (callsIn_wide.2 R)).mono ?_);rintro e w' ⟨rfl,g⟩;have d2:Cz w' (w.1.size+1) 0 (I (vY (b.map f))):=(g.cell (p:=(U (w.1.size+1) 0)) M).trans c2;have e2:w'.frozen? (U (w.1.size+1) 0)=false:=zI ((g.block _ M).trans V) 0;have a:=ze g;clear g)
  all_goals gi_wp2
  all_goals(try go_bits)
  all_goals(first|(rw[hz];exact yQ (x:=x) rfl hn u V d ⟨a.os,a.tape,a.output,a.size,a.block⟩)|exact yQ (x:=x) rfl hn u V d ⟨a.os,a.tape,a.output,a.size,a.block⟩)
 case done=>
  rintro D xs W hD hS ⟨i1,i2,i3⟩ z;obtain⟨c2,-⟩:=zc i2;have d:=ze i3;clear i1 i2 i3;gi_wp2;refine⟨by simp,.inl ⟨_,_,rfl,run_takeDeferred z,?_⟩⟩;exact⟨_,results_tmp rfl _ _ _,xs,hS,rfl,xG d (za _) (by omega) z _⟩
 case stop=>
  rintro D c b W _ _ h _;exact h.elim
