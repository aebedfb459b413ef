import Derived.Laws.CopyRow
import Derived.Laws.IdiomCopy
import Derived.Laws.CopyOwn
import Derived.Deep.WholeRow
import Derived.Tactics
import Derived.Below
import Derived.Test.YtndhpgciopcncaaGreatDoorRows
import Derived.Test.YtndhpgciopcncaaGreatDoorYConf0
import Derived.WalkKit
import Derived.WalkSpells
import Derived.WalkLawsBesides
import Derived.Deep.QuietTactic
import Derived.BigQuiet
open Go.Value renaming int → I
open Go.IntKind renaming i64 → J
open Option renaming none → O
open Go renaming World → E
open Go.RowKit.Below renaming refl → Q
open Nat renaming le_refl → U
open Option renaming some → Y
set_option maxHeartbeats 400000
open Go.Proofs.Tryz
namespace Go.Proofs.YtndhpgciopcncaaGreatDoor
open Go.RowKit
theorem ZN{P:Program}(w:E)(r F G d:TypeId)(n:Nat)(g a f:Nat)(q:Option Addr)(b l:Nat)(c:Array Value)(t:TypeId)(cs:List Value)
  (z:P.underlying r=Y (.slice d)) (y:(P.info? d).map (·.size)=Y n) (s:w.1[g]?=Y (.cells c t (0,0))) (hn:cs.length=Nat.min b a*n)
  (k:0<cs.length->∃ad,q=Y ad/\∀j v,cs[j]?=Y v->w.cell? (ad.add j)=Y v) (h:cs.length<=c.size) (B:∀v∈cs,v.oneCell'=true):
  (Builtin.copy_ #[r,F] G #[.slice (Y ⟨g,0,O⟩) a f,.slice q b l]).run P w=.ok (goInt (Nat.min b a)) (w.setRow g (cs++c.toList.drop cs.length).toArray):=by
 have p:=run_storeCells_at P g 0 t cs 0 c w s (by simpa using h) B
 cases m:P.info? d with
 |none=>simp[m]at y
 |some i=>
  have u:i.size=n:=by simpa[m]using y
  by_cases A:cs.length=0
  ·obtain rfl:cs=[]:=List.eq_nil_of_length_eq_zero A
   have D:Nat.min b a*n=0:=by simpa using hn.symm
   have o:∀(x:Addr),(loadCells x 0).run P w=.ok #[] w:=fun x=>by simpa using run_loadCells_list (P:=P) w x [] (by simp)
   have e:=setRow_self w g c t (0,0) s
   cases q<;>simp[Builtin.copy_,run_underlying z,Builtin.lenOf,Builtin.firstCells,sizeOf,typeInfo,m,u,D,storeCells,o,e]
  ·obtain⟨ad,rfl,C⟩:=k (by omega)
   have o:=run_loadCells_list (P:=P) w ad cs C
   simp[Builtin.copy_,run_underlying z,Builtin.lenOf,Builtin.firstCells,sizeOf,typeInfo,m,u,<-hn,o,p]
def Zo(F W K:Nat->Int)(j:Nat):Value:=if j%3=0 then I J (F (j/3))else if j%3=1 then I J (W (j/3))else I J (K (j/3))
theorem JV(F W K:Nat->Int)(i:Nat):Zo F W K (i*3)=I J (F i):=by
 unfold Zo;rw[if_pos (by omega),show i*3/3=i by omega]
theorem JW(F W K:Nat->Int)(i:Nat):Zo F W K (i*3+1)=I J (W i):=by
 unfold Zo;rw[if_neg (by omega),if_pos (by omega),show(i*3+1)/3=i by omega]
theorem JX(F W K:Nat->Int)(i:Nat):Zo F W K (i*3+2)=I J (K i):=by
 unfold Zo;rw[if_neg (by omega),if_neg (by omega),show(i*3+2)/3=i by omega]
def ZM(n:Nat)(F W K:Nat->Int):List Value:=(List.range (n*3)).map (Zo F W K)
theorem zW(n:Nat)(F W K:Nat->Int):(ZM n F W K).length=n*3:=by simp[ZM]
theorem Q8(n:Nat)(F W K:Nat->Int)(j:Nat)(h:j<n*3):(ZM n F W K)[j]?=Y (Zo F W K j):=by simp[ZM,h]
theorem Vc(n:Nat)(F W K:Nat->Int):∀v∈ZM n F W K,v.oneCell'=true:=by
 intro v hv
 simp only[ZM,List.mem_map]at hv
 obtain⟨j,_,rfl⟩:=hv
 unfold Zo
 split
 ·rfl
 ·split<;>rfl
def TS(w:E)(a:Option Addr)(n:Nat)(F W K:Nat->Int):Prop:=
 0<n->∃b c,a=Y ⟨b,c,O⟩/\b<w.1.size/\∀i,i<n->w.cell? ⟨b,c+i*3,O⟩=Y (I J (F i))/\w.cell? ⟨b,c+i*3+1,O⟩=Y (I J (W i))/\w.cell? ⟨b,c+i*3+2,O⟩=Y (I J (K i))
theorem TS.below{w w':E}{a:Option Addr}{n:Nat}{F W K:Nat->Int}(h:TS w a n F W K)(f:Below w.1.size w w'):TS w' a n F W K:=fun g=>by
 obtain⟨b,d,rfl,c,j⟩:=h g
 have e:∀o,w'.cell? ⟨b,o,O⟩=w.cell? ⟨b,o,O⟩:=fun o=>f.cell (p:=⟨b,o,O⟩) c
 exact⟨b,d,rfl,Nat.lt_of_lt_of_le c f.size,fun i k=>by simp only[e];exact j i k⟩
theorem zjE{W a:E}(c:Below W.1.size W a):(∀b o,b<W.1.size->a.cell? ⟨b,o,O⟩=W.cell? ⟨b,o,O⟩)/\(∀b o,b<W.1.size->a.frozen? ⟨b,o,O⟩=W.frozen? ⟨b,o,O⟩):=
 ⟨fun b o h=>c.cell (p:=⟨b,o,O⟩) h,fun b o h=>c.frozen (p:=⟨b,o,O⟩) h⟩
theorem Qg(w:E)(C:Array Value)(t:TypeId)(a:Nat×Nat)(n j:Nat)(hn:n=w.1.size):(w.alloc (.cells C t a)).cell? ⟨n,j,O⟩=C[j]?:=by
 subst hn
 exact World.cell?_alloc_mark w C t a j
def CF(w:E)(p:Nat)(s c b e ke d:Int)(a:Option Addr)(n cap:Nat):Prop:=
 p<w.1.size/\w.cell? ⟨p,0,O⟩=Y (I J s)/\w.cell? ⟨p,1,O⟩=Y (I J c)/\w.cell? ⟨p,2,O⟩=Y (I J b)/\w.cell? ⟨p,3,O⟩=Y (I J e)/\w.cell? ⟨p,4,O⟩=Y (I J ke)/\w.cell? ⟨p,5,O⟩=Y (I J d)/\w.cell? ⟨p,6,O⟩=Y (.slice a n cap)
theorem CF.made(w:E)(t:TypeId)(f:Nat×Nat)(s c b e ke d:Int)(a:Option Addr)(n cap:Nat):
  CF (w.alloc (.cells #[I J s,I J c,I J b,I J e,I J ke,I J d,.slice a n cap] t f)) w.1.size s c b e ke d a n cap:=by
 refine⟨by simp,?_,?_,?_,?_,?_,?_,?_⟩<;>rw[Qg _ _ _ _ _ _ rfl]<;>rfl
theorem CF.below{w w':E}{p B:Nat}{s d c g ke f:Int}{a:Option Addr}{n cap:Nat}(h:CF w p s d c g ke f a n cap)(b:Below B w w')(j:p<B):CF w' p s d c g ke f a n cap:=by
 have e:∀o,w'.cell? ⟨p,o,O⟩=w.cell? ⟨p,o,O⟩:=fun o=>b.cell (p:=⟨p,o,O⟩) j
 obtain⟨i,h⟩:=h
 exact⟨Nat.lt_of_lt_of_le i b.size,by simp only[e];exact h⟩
theorem zy{a b:Bool}(h:a=b):Ending.returned (.bool a)=.returned (.bool b):=by rw[h]
theorem ja{k:IntKind}{a b:Int}(h:a=b):Ending.returned (.int k a)=.returned (.int k b):=by rw[h]
theorem xB(x b a:Int)(w:E):
  Calls prog 92 #[I J x,I J b,I J a] w fun e w'=>e=.returned (.bool (inB x b a))/\w'=w:=by
 by_cases c:b<=x
 ·by_cases d:x<=a
  all_goals
   go_enter func92,ntmps92
   go_wp2
   go_ret
   exact⟨zy (by simp[inB, *]),rfl⟩
 ·go_enter func92,ntmps92
  go_wp2
  go_ret
  exact⟨zy (by simp[inB];omega),rfl⟩
theorem vI(x b a:Int)(w:E):
  Calls prog 136 #[I J x,I J b,I J a] w fun e w'=>e=.returned (.bool (inB x b a))/\w'=w:=by
 by_cases c:b<=x
 ·by_cases d:x<=a
  all_goals
   go_enter func136,ntmps136
   go_wp2
   go_ret
   exact⟨zy (by simp[inB, *]),rfl⟩
 ·go_enter func136,ntmps136
  go_wp2
  go_ret
  exact⟨zy (by simp[inB];omega),rfl⟩
theorem zfS(s d c b ke f:Int)(a:Option Addr)(n cap:Nat)(w:E):
  Calls prog 237 #[.agg #[I J s,I J d,I J c,I J b,I J ke,I J f,.slice a n cap],I J (-1)] w fun e w'=>e=.returned (I J b)/\Below w.1.size w w':=by
 go_enter func237,ntmps237
 go_wp2
 go_ret
 exact⟨rfl,(Q _ _).alloc (U _) _⟩
theorem zdB(s l k p ke o:Int)(a:Option Addr)(n cap:Nat)(F W K:Nat->Int)(i:Nat)(f:i<n)(hn:n<=4)(w:E)(h:TS w a n F W K):
  Calls prog 237 #[.agg #[I J s,I J l,I J k,I J p,I J ke,I J o,.slice a n cap],I J i] w fun e w'=>e=.returned (I J (W i))/\Below w.1.size w w':=by
 obtain⟨b,m,rfl,c,d⟩:=h (by omega)
 obtain⟨q,r,t⟩:=d i f
 have j:((i:Int)== -1)=false:=beq_eq_false_iff_ne.2 (by omega)
 have g:(i:Int)<n:=by omega
 go_enter func237,ntmps237
 go_wp2
 go_ret
 exact⟨rfl,(Q _ _).alloc (U _) _⟩
theorem zdH(s d c b ke f:Int)(a:Option Addr)(n cap:Nat)(w:E):
  Calls prog 138 #[.agg #[I J s,I J d,I J c,I J b,I J ke,I J f,.slice a n cap],I J (-1)] w fun e w'=>e=.returned (I J b)/\Below w.1.size w w':=by
 go_enter func138,ntmps138
 go_wp2
 go_ret
 exact⟨rfl,(Q _ _).alloc (U _) _⟩
theorem zcf(s l k p ke o:Int)(a:Option Addr)(n cap:Nat)(F W K:Nat->Int)(i:Nat)(f:i<n)(hn:n<=4)(w:E)(h:TS w a n F W K):
  Calls prog 138 #[.agg #[I J s,I J l,I J k,I J p,I J ke,I J o,.slice a n cap],I J i] w fun e w'=>e=.returned (I J (W i))/\Below w.1.size w w':=by
 obtain⟨b,m,rfl,c,d⟩:=h (by omega)
 obtain⟨q,r,t⟩:=d i f
 have j:((i:Int)== -1)=false:=beq_eq_false_iff_ne.2 (by omega)
 have g:(i:Int)<n:=by omega
 go_enter func138,ntmps138
 go_wp2
 go_ret
 exact⟨rfl,(Q _ _).alloc (U _) _⟩
theorem vs(s d c b ke f:Int)(a:Option Addr)(n cap:Nat)(F W K:Nat->Int)(t:Int)(g: -1<=t)(j:t<n)(hn:n<=4)(w:E)(h:TS w a n F W K):
  Calls prog 237 #[.agg #[I J s,I J d,I J c,I J b,I J ke,I J f,.slice a n cap],I J t] w fun e w'=>e=.returned (I J (zY b W t))/\Below w.1.size w w':=by
 by_cases e:t= -1
 ·subst e;simp only[zY,if_pos];exact zfS s d c b ke f a n cap w
 ·obtain⟨i,rfl⟩:=Int.eq_ofNat_of_zero_le (show 0<=t by omega)
  simp only[zY,if_neg e,Int.toNat_natCast];exact zdB s d c b ke f a n cap F W K i (by omega) hn w h
theorem kY(s d c b ke f:Int)(a:Option Addr)(n cap:Nat)(F W K:Nat->Int)(t:Int)(g: -1<=t)(j:t<n)(hn:n<=4)(w:E)(h:TS w a n F W K):
  Calls prog 138 #[.agg #[I J s,I J d,I J c,I J b,I J ke,I J f,.slice a n cap],I J t] w fun e w'=>e=.returned (I J (zY b W t))/\Below w.1.size w w':=by
 by_cases e:t= -1
 ·subst e;simp only[zY,if_pos];exact zdH s d c b ke f a n cap w
 ·obtain⟨i,rfl⟩:=Int.eq_ofNat_of_zero_le (show 0<=t by omega)
  simp only[zY,if_neg e,Int.toNat_natCast];exact zcf s d c b ke f a n cap F W K i (by omega) hn w h
theorem kT(a:Option Addr)(n cap:Nat)(F W K:Nat->Int)(t0:Nat)(v:t0<n)(hn:n<=4)(r:∀i,i<n-> -1<=F i/\F i<n)(w:E)(h:TS w a n F W K):
  Calls prog 240 #[.slice a n cap,I J t0] w fun e w'=>e=.returned (.bool (down F n t0))/\w'=w:=by
 obtain⟨b,B,rfl,s,u⟩:=h (by omega)
 go_enter func240,ntmps240
 go_wp2
 go_loop [1,7] (fun x y=>∃(t k:Nat),t<n/\k<=n/\x=I J t/\y=I J k/\down F n t0=down F (n-k) t) (fun _ y=>n-(intOf y).toNat)
 case atStart=>exact⟨t0,0,v,Nat.zero_le _,rfl,rfl,rfl⟩
 case round=>
  obtain⟨t,k,p,G,rfl,rfl,j⟩:=hrel
  have d:Hid (down F n t0=down F (n-k) t):=j
  clear j
  obtain⟨C,_,_⟩:=u t p
  have D:=r t p
  have A:(t:Int)<n:=by omega
  by_cases z:k<n
  ·have o:down F (n-k) t=(F t== -1||down F (n-(k+1)) (F t)):=by
    rw[show n-k=(n-(k+1))+1 by omega,down];simp
   have c:=o;clear o
   have c:Hid (down F n t0=(F t== -1||down F (n-(k+1)) (F t))):=by rw[d.out];exact c
   by_cases e:F t= -1
   ·have q:Hid (down F n t0=true):=by rw[c.out,e];simp[Hid]
    clear c d
    have g:(F t== -1)=true:=by simp[e]
    clear e
    go_wp2
    go_ret
    exact⟨zy q.out.symm,rfl⟩
   ·have g:(F t== -1)=false:=by simp[e]
    obtain⟨m,l⟩:=Int.eq_ofNat_of_zero_le (show 0<=F t by omega)
    have f:Hid (F t=m):=l
    clear l e
    go_wp2
    go_round
    case rel=>exact⟨m,k+1,by have:=f.out;omega,by omega,by rw[f.out],by go_num,by rw[c.out,g,f.out];simp⟩
    case measure=>simp[intOf];omega
  ·go_wp2
   go_ret
   exact⟨zy (by rw[d.out,show n-k=0 by omega];rfl),rfl⟩
theorem Zt(s z v C ke B:Int)(a:Option Addr)(n cap:Nat)(F W K:Nat->Int)(t0:Nat)(G:t0<n)(hn:n<=4)(w:E)(h:TS w a n F W K):
  Calls prog 137 #[.agg #[I J s,I J z,I J v,I J C,I J ke,I J B,.slice a n cap],I J t0] w fun e w'=>e=.returned (.bool (zP n F (n+1) t0))/\Below w.1.size w w':=by
 obtain⟨b,A,rfl,p,q⟩:=h (by omega)
 go_enter func137,ntmps137
 go_wp2
 go_loop [1,5] (fun x y=>∃(t:Int) (k:Nat),k<=n+1/\x=I J t/\y=I J k/\zP n F (n+1) t0=zP n F (n+1-k) t) (fun _ y=>n+1-(intOf y).toNat)
 case atStart=>exact⟨t0,0,Nat.zero_le _,rfl,rfl,rfl⟩
 case round=>
  obtain⟨t,k,H,rfl,rfl,j⟩:=hrel
  have g:Hid (zP n F (n+1) t0=zP n F (n+1-k) t):=j
  clear j
  by_cases r:k<=n
  ·have o:zP n F (n+1-k) t=(t== -1||(!(decide (t< -1)||decide ((n:Int)<=t))&&zP n F (n+1-(k+1)) (F t.toNat))):=by
    rw[show n+1-k=(n+1-(k+1))+1 by omega,zP]
   have c:Hid (zP n F (n+1) t0=(t== -1||(!(decide (t< -1)||decide ((n:Int)<=t))&&zP n F (n+1-(k+1)) (F t.toNat)))):=by rw[g.out];exact o
   clear o g
   by_cases e:t= -1
   ·subst e
    have d:Hid (zP n F (n+1) t0=true):=by rw[c.out];simp[Hid]
    clear c
    go_wp2
    go_ret
    exact⟨zy d.out.symm,(Q _ _).alloc (U _) _⟩
   ·have i:(t== -1)=false:=by simp[e]
    by_cases l:t< -1
    ·have d:Hid (zP n F (n+1) t0=false):=by rw[c.out,i];simp[Hid,l]
     clear c e
     go_wp2
     go_ret
     exact⟨zy d.out.symm,(Q _ _).alloc (U _) _⟩
    ·by_cases f:(n:Int)<=t
     ·have d:Hid (zP n F (n+1) t0=false):=by rw[c.out,i];simp[Hid,f]
      clear c e
      go_wp2
      go_ret
      exact⟨zy d.out.symm,(Q _ _).alloc (U _) _⟩
     ·obtain⟨m,rfl⟩:=Int.eq_ofNat_of_zero_le (show 0<=t by omega)
      have u:(m:Int)<n:=by omega
      obtain⟨D,_,_⟩:=q m (by omega)
      have d:Hid (zP n F (n+1) t0=zP n F (n+1-(k+1)) (F m)):=by rw[c.out,i];simp[Hid,l,f]
      clear c e
      go_wp2
      go_round
      case rel=>exact⟨F m,k+1,by omega,rfl,by go_num,d.out⟩
      case measure=>simp[intOf];omega
  ·go_wp2
   go_ret
   exact⟨zy (by rw[g.out,show n+1-k=0 by omega];rfl),(Q _ _).alloc (U _) _⟩
theorem YD(a:Option Addr)(n cap:Nat)(F W K:Nat->Int)(hn:n<=4)(w:E)(h:TS w a n F W K):
  Calls prog 195 #[.slice a n cap] w fun e w'=>e=.returned (.bool (kq n (vD n F W K)))/\Below w.1.size w w':=by
 go_enter func195,ntmps195
 go_wp2
 go_loopw [2,4,7] (fun _ _ y wr=>∃(k:Nat),k<=n/\y=I J k/\kq k (vD n F W K)=true/\Below w.1.size w wr) (fun _ _ y _=>n-(intOf y).toNat)
 case atStart=>exact⟨0,Nat.zero_le _,rfl,Zm _,Q _ _⟩
 case round=>
  obtain⟨k,x,rfl,o,c⟩:=hrel
  have g:Hid (kq k (vD n F W K)=true):=o
  clear o
  by_cases d:k<n
  ·have m:=h.below c
   obtain⟨b,s,rfl,q,p⟩:=m (by omega)
   obtain⟨t,u,v⟩:=p k d
   have r:(k:Int)<n:=by omega
   clear p h m
   cases i:inB (F k) (-1) ((n:Int)-1)
   ·have f:Hid (kq n (vD n F W K)=false):=xD _ _ k d (by simp[vD,i])
    go_wp2_with(go_at_call 92;refine(xB _ _ _ _).mono ?_;rintro e w' ⟨rfl,rfl⟩)
    go_ret
    exact⟨zy f.out.symm,c.alloc c.size _⟩
   ·cases j:inB (W k) 1 1000
    ·have f:Hid (kq n (vD n F W K)=false):=xD _ _ k d (by simp[vD,j])
     go_wp2_with(go_at_call 92;refine(xB _ _ _ _).mono ?_;rintro e w' ⟨rfl,rfl⟩)
     go_ret
     exact⟨zy f.out.symm,c.alloc c.size _⟩
    ·cases l:inB (K k) 0 1000
     ·have f:Hid (kq n (vD n F W K)=false):=xD _ _ k d (by simp[vD,l])
      go_wp2_with(go_at_call 92;refine(xB _ _ _ _).mono ?_;rintro e w' ⟨rfl,rfl⟩)
      go_ret
      exact⟨zy f.out.symm,c.alloc c.size _⟩
     ·have f:Hid (kq (k+1) (vD n F W K)=true):=by
       show _=_
       rw[Zl,g.out];simp[vD,i,j,l]
      go_wp2_with(go_at_call 92;refine(xB _ _ _ _).mono ?_;rintro e w' ⟨rfl,rfl⟩)
      go_roundw
      case rel=>exact⟨k+1,by omega,by go_num,f.out,c.alloc c.size _⟩
      case measure=>simp[intOf];omega
  ·have e:k=n:=by omega
   subst e
   go_wp2
   go_ret
   exact⟨zy g.out.symm,c⟩
end Go.Proofs.YtndhpgciopcncaaGreatDoor
