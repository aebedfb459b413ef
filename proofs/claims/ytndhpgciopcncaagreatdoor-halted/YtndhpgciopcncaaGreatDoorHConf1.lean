import Derived.Test.YtndhpgciopcncaaGreatDoorHAbb
import Derived.Test.YtndhpgciopcncaaGreatDoorRows
import Derived.Test.YtndhpgciopcncaaGreatDoorHConf0
import Derived.WalkKit
import Derived.WalkSpells
import Derived.WalkLawsBesides
import Derived.Deep.QuietTactic
import Derived.BigQuiet
set_option maxHeartbeats 400000
open Go.Proofs.Tryz
namespace Go.Proofs.YtndhpgciopcncaaGreatDoor
open Go.RowKit
variable {n:Nat} {a:Option Addr} {w w':World}
def TS(w:World)(a:Option Addr)(n:Nat)(F W K:Nat->Int):Prop:=
 0<n->∃b c,a=some (U b c)/\b<w.1.size/\∀i,i<n->w.cell? (U b (c+i*3))=some (I (F i))/\w.cell? (U b (c+i*3+1))=some (I (W i))/\w.cell? (U b (c+i*3+2))=some (I (K i))
theorem TS.below{F W K:Nat->Int}(h:TS w a n F W K)(f:Below w.1.size w w'):TS w' a n F W K:=fun g=>by
 obtain⟨b,d,rfl,c,j⟩:=h g;have e:∀o,w'.cell? (U b o)=w.cell? (U b o):=fun o=>f.cell (p:=(U b o)) c;exact⟨b,d,rfl,Nat.lt_of_lt_of_le c f.size,fun i k=>by simp only[e];exact j i k⟩
theorem znI(w:World)(C:Array Value)(t:TypeId)(fr:Nat×Nat)(n j:Nat)(hn:n=w.1.size):(w.alloc (.cells C t fr)).cell? (U n j)=C[j]?:=by
 subst hn;exact World.cell?_alloc_mark w C t fr j
def CF(w:World)(p:Nat)(s le la wi ke qu:Int)(a:Option Addr)(n cap:Nat):Prop:=
 p<w.1.size/\w.cell? (U p 0)=some (I s)/\w.cell? (U p 1)=some (I le)/\w.cell? (U p 2)=some (I la)/\w.cell? (U p 3)=some (I wi)/\w.cell? (U p 4)=some (I ke)/\w.cell? (U p 5)=some (I qu)/\w.cell? (U p 6)=some (.slice a n cap)
theorem CF.made(w:World)(t:TypeId)(fr:Nat×Nat)(s le la wi ke qu:Int)(a:Option Addr)(n cap:Nat):
  CF (w.alloc (.cells #[I s,I le,I la,I wi,I ke,I qu,.slice a n cap] t fr)) w.1.size s le la wi ke qu a n cap:=by
 refine⟨by simp,?_,?_,?_,?_,?_,?_,?_⟩<;>rw[znI _ _ _ _ _ _ rfl]<;>rfl
theorem CF.below{p B:Nat}{s le la wi ke qu:Int}{cap:Nat}(h:CF w p s le la wi ke qu a n cap)(b:Below B w w')(d:p<B):CF w' p s le la wi ke qu a n cap:=by
 have e:∀o,w'.cell? (U p o)=w.cell? (U p o):=fun o=>b.cell (p:=(U p o)) d;obtain⟨c,h⟩:=h;exact⟨Nat.lt_of_lt_of_le c b.size,by simp only[e];exact h⟩
theorem qc{a b:Bool}(h:a=b):Ending.returned (.bool a)=.returned (.bool b):=by rw[h]
theorem xV(x lo a:Int)(w:World):
  Calls prog 92 #[I x,I lo,I a] w fun e w'=>e=.returned (.bool (inB x lo a))/\w'=w:=by
 by_cases b:lo<=x
 ·by_cases c:x<=a;all_goals
   go_enter func92,ntmps92
   go_wp2
   go_ret
   exact⟨qc (by simp[inB, *]),rfl⟩
 ·go_enter func92,ntmps92;go_wp2;go_ret;exact⟨qc (by simp[inB];omega),rfl⟩
theorem zkf(s le la wi ke qu:Int)(a:Option Addr)(n cap:Nat)(w:World):
  Calls prog 237 #[.agg #[I s,I le,I la,I wi,I ke,I qu,.slice a n cap],I (-1)] w (Rz w (I wi)):=by
 go_enter func237,ntmps237;go_wp2;go_ret;exact⟨rfl,(Below.refl _ _).alloc (Nat.le_refl _) _⟩
theorem zgK(s le la wi ke qu:Int)(a:Option Addr)(n cap:Nat)(F W K:Nat->Int)(i:Nat)(e:i<n)(hn:n<=4)(w:World)(h:TS w a n F W K):
  Calls prog 237 #[.agg #[I s,I le,I la,I wi,I ke,I qu,.slice a n cap],I i] w (Rz w (I (W i))):=by
 obtain⟨b,j,rfl,c,d⟩:=h (by omega);obtain⟨k,l,m⟩:=d i e;have g:((i:Int)== -1)=false:=beq_eq_false_iff_ne.2 (by omega);have f:(i:Int)<n:=by omega
 go_enter func237,ntmps237;go_wp2;go_ret;exact⟨rfl,(Below.refl _ _).alloc (Nat.le_refl _) _⟩
theorem kL(s le la wi ke qu:Int)(a:Option Addr)(n cap:Nat)(F W K:Nat->Int)(t:Int)(b: -1<=t)(c:t<n)(hn:n<=4)(w:World)(h:TS w a n F W K):
  Calls prog 237 #[.agg #[I s,I le,I la,I wi,I ke,I qu,.slice a n cap],I t] w (Rz w (I (zQ wi W t))):=by
 by_cases e:t= -1
 ·subst e;simp only[zQ,if_pos];exact zkf s le la wi ke qu a n cap w
 ·obtain⟨i,rfl⟩:=Int.eq_ofNat_of_zero_le (show 0<=t by omega);simp only[zQ,if_neg e,Int.toNat_natCast];exact zgK s le la wi ke qu a n cap F W K i (by omega) hn w h
theorem jh(a:Option Addr)(n cap:Nat)(F W K:Nat->Int)(t0:Nat)(v:t0<n)(hn:n<=4)(r:∀i,i<n-> -1<=F i/\F i<n)(w:World)(h:TS w a n F W K):
  Calls prog 240 #[.slice a n cap,I t0] w fun e w'=>e=.returned (.bool (down F n t0))/\w'=w:=by
 obtain⟨b,B,rfl,s,u⟩:=h (by omega);go_enter func240,ntmps240;go_wp2
 go_loop [1,7] (fun x y=>∃(t k:Nat),t<n/\k<=n/\x=I t/\y=I k/\down F n t0=down F (n-k) t) (fun _ y=>n-(intOf y).toNat)
 case atStart=>exact⟨t0,0,v,Nat.zero_le _,rfl,rfl,rfl⟩
 case round=>
  obtain⟨t,k,p,E,rfl,rfl,j⟩:=hrel;have d:Hid (down F n t0=down F (n-k) t):=j;clear j;obtain⟨C,_,_⟩:=u t p;have D:=r t p;have A:(t:Int)<n:=by omega
  by_cases z:k<n
  ·have o:down F (n-k) t=(F t== -1||down F (n-(k+1)) (F t)):=by
    rw[show n-k=(n-(k+1))+1 by omega,down];simp
   have c:=o;clear o;have c:Hid (down F n t0=(F t== -1||down F (n-(k+1)) (F t))):=(by rw[d.out];exact c);by_cases e:F t= -1
   ·have q:Hid (down F n t0=true):=(by rw[c.out,e];simp[Hid]);clear c d;have g:(F t== -1)=true:=(by simp[e]);clear e;go_wp2;go_ret;exact⟨qc q.out.symm,rfl⟩
   ·have g:(F t== -1)=false:=(by simp[e]);obtain⟨m,l⟩:=Int.eq_ofNat_of_zero_le (show 0<=F t by omega);have f:Hid (F t=m):=l;clear l e;go_wp2
    go_round
    case rel=>exact⟨m,k+1,by have:=f.out;omega,by omega,by rw[f.out],by go_num,by rw[c.out,g,f.out];simp⟩
    case measure=>simp[intOf];omega
  ·go_wp2;go_ret;exact⟨qc (by rw[d.out,show n-k=0 by omega];rfl),rfl⟩
theorem VG(a:Option Addr)(n cap:Nat)(F W K:Nat->Int)(hn:n<=4)(w:World)(h:TS w a n F W K):
  Calls prog 195 #[.slice a n cap] w (Rz w (.bool (Yu n (ZH n F W K)))):=by
 go_enter func195,ntmps195;go_wp2;go_loopw [2,4,7] (fun _ _ y wr=>∃(k:Nat),k<=n/\y=I k/\Yu k (ZH n F W K)=true/\Below w.1.size w wr) (fun _ _ y _=>n-(intOf y).toNat);case atStart=>exact⟨0,Nat.zero_le _,rfl,zaP _,Below.refl _ _⟩
 case round=>
  obtain⟨k,x,rfl,o,c⟩:=hrel;have g:Hid (Yu k (ZH n F W K)=true):=o;clear o;by_cases d:k<n
  ·have m:=h.below c;obtain⟨b,s,rfl,q,p⟩:=m (by omega);obtain⟨t,u,v⟩:=p k d;have r:(k:Int)<n:=(by omega);clear p h m;cases i:inB (F k) (-1) ((n:Int)-1)
   ·have f:Hid (Yu n (ZH n F W K)=false):=yV _ _ k d (by simp[ZH,i]);go_wp2_with(go_at_call 92;refine(xV _ _ _ _).mono ?_;rintro e w' ⟨rfl,rfl⟩);go_ret;exact⟨qc f.out.symm,c.alloc c.size _⟩
   ·cases j:inB (W k) 1 1000
    ·have f:Hid (Yu n (ZH n F W K)=false):=yV _ _ k d (by simp[ZH,j]);go_wp2_with(go_at_call 92;refine(xV _ _ _ _).mono ?_;rintro e w' ⟨rfl,rfl⟩);go_ret;exact⟨qc f.out.symm,c.alloc c.size _⟩
    ·cases l:inB (K k) 0 1000
     ·have f:Hid (Yu n (ZH n F W K)=false):=yV _ _ k d (by simp[ZH,l]);go_wp2_with(go_at_call 92;refine(xV _ _ _ _).mono ?_;rintro e w' ⟨rfl,rfl⟩);go_ret;exact⟨qc f.out.symm,c.alloc c.size _⟩
     ·have f:Hid (Yu (k+1) (ZH n F W K)=true):=by
       show _=_;rw[zaO,g.out];simp[ZH,i,j,l]
      go_wp2_with(go_at_call 92;refine(xV _ _ _ _).mono ?_;rintro e w' ⟨rfl,rfl⟩);go_roundw;case rel=>exact⟨k+1,by omega,by go_num,f.out,c.alloc c.size _⟩
      case measure=>simp[intOf];omega
  ·have e:k=n:=(by omega);subst e;go_wp2;go_ret;exact⟨qc g.out.symm,c⟩
end Go.Proofs.YtndhpgciopcncaaGreatDoor
