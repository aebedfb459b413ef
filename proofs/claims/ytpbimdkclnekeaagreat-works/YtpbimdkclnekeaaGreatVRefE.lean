import Derived.Test.YtpbimdkclnekeaaGreatVRefC
import Derived.Maps.Keyed
import Derived.Maps.RangeRun
import Derived.DeepKeys4
import Derived.RangeFuncOwn
open Go.Value renaming int → I
open Go.IntKind renaming i64 → J
open Option renaming none → O
open Option renaming some → U
open Go renaming World → Y
open Go renaming Value → Z
open Go.RowKit renaming Below → N
open Go.RowKit.Below renaming refl → S
open Nat renaming le_refl → D
open Go.IntKind (i32)
set_option linter.unusedVariables false
set_option maxRecDepth 8000
set_option maxHeartbeats 8000000
open Go.Proofs.Tryz
namespace Go.Proofs.YtpbimdkclnekeaaGreat
open Go.RowKit
def zaX(m:RM)(kind:Int)(s:Sg):Tk:=⟨kind,s,m.now,0,0,0,0,-1,0⟩
def qj(kind:Int)(s:Sg)(t x:Tk):Tk:=if x.kind=kind/\x.s=s then x else t
def qF(m:RM)(kind:Int)(s:Sg):Tk:=m.tg.foldl (qj kind s) (zaX m kind s)
def kj(m:RM)(kind:Int)(s:Sg)(l:List Sg):Bool:=if kind=1 then qE m s l else qX m s l
def yJ(m:RM)(l:List Sg)(kind:Int)(out:List Tk)(s:Sg):List Tk:=if kj m kind s l then yN xZ (qF m kind s) out else out
def xY(m:RM)(l:List Sg)(i:Nat):List Tk:=(l.take i).foldl (fun out s=>yJ m l 2 (yJ m l 1 out s) s) []
def Zm(m:RM)(l:List Sg)(A:List Tk)(s:Sg):Nat->List Tk
 |0=>A
 |q+1=>yJ m l ((q:Int)+1) (Zm m l A s q) s
def RM.settled(m:RM):RM:={m with tg:=xY m (zS m.c m.nu) (zS m.c m.nu).length}
theorem Yx(m:RM)(l:List Sg)(i:Nat)(s:Sg)(h:l[i]?=U s):xY m l (i+1)=Zm m l (xY m l i) s 2:=by
 obtain⟨a,b⟩:=List.getElem?_eq_some_iff.1 h
 unfold xY
 rw[List.take_succ_eq_append_getElem a,b,List.foldl_append];rfl
theorem Jo{α:Type}(lt:α->α->Bool)(x:α):∀l:List α,(yN lt x l).length=l.length+1
 |[]=>rfl
 |y::r=>by rw[yN];split<;>simp[Jo lt x r]
theorem zgx(m:RM)(l:List Sg)(kind:Int)(out:List Tk)(s:Sg):(yJ m l kind out s).length<=out.length+1:=by
 unfold yJ;split
 ·rw[Jo];omega
 ·omega
theorem zaW(m:RM)(l:List Sg)(A:List Tk)(s:Sg):∀q,(Zm m l A s q).length<=A.length+q
 |0=>D _
 |q+1=>by have:=zgx m l ((q:Int)+1) (Zm m l A s q) s;have a:=zaW m l A s q;rw[Zm];omega
theorem KL(m:RM)(l:List Sg):∀i,i<=l.length->(xY m l i).length<=2*i
 |0,_=>by simp[xY]
 |i+1,h=>by
  obtain⟨s,a⟩:=xr (show i<l.length by omega)
  have:=KL m l i (by omega)
  have b:=zaW m l (xY m l i) s 2
  rw[Yx m l i s a];omega
theorem zfT(m:RM)(kind:Int)(s:Sg)(k:Nat)(x:Tk)(h:m.tg[k]?=U x):(m.tg.take (k+1)).foldl (qj kind s) (zaX m kind s)=qj kind s ((m.tg.take k).foldl (qj kind s) (zaX m kind s)) x:=by
 rw[zgQ h,List.foldl_append];rfl
theorem zia{kind:Int}{s:Sg}{t x:Tk}(h:x.kind=kind)(a:x.s=s):qj kind s t x=x:=by simp[qj,h,a]
theorem zhY{kind:Int}{s:Sg}{t x:Tk}(h:¬x.kind=kind):qj kind s t x=t:=by simp[qj,h]
theorem zhZ{kind:Int}{s:Sg}{t x:Tk}(h:¬x.s=s):qj kind s t x=t:=by simp[qj,h]
theorem zjP{c:Cf}{nu:List Nm}(h:c.ok)(b:∀x∈nu,x.ok):∀s∈zS c nu,zgr c s:=fun s j=>by
 obtain⟨d,f,x,k,i⟩:=yT.1 j
 obtain⟨l,m,g,n,o,p⟩:=b x k
 obtain⟨q,r⟩:=h.wh d f
 have e:s.we=x.tm/c.wh s.t:=by rw[i];rfl
 refine⟨d,f,?_,?_⟩
 ·rw[e];exact Int.ediv_nonneg g (by omega)
 ·rw[e];have:=Int.ediv_le_self (a:=x.tm) (c.wh s.t) g;omega
theorem zt{w:Y}{p:Nat}{cs:Array Z}{T e:TypeId}{d:Nat×Nat}{B size n:Nat}{v:Z}{xs:List Z}(h:w.1[p]?=U (.cells cs T d))(i:w.ownsRow B e size v n xs)(f:T≠e):∀k,v.ownBlock=U k->¬k=p:=fun k g b=>by
 subst b
 obtain⟨c,a⟩:=zO i g
 rw[h]at a
 injection a with a;injection a with _ a;exact f a
theorem zJ.setTasks{B:Nat}{w:Y}{p:Nat}{m:RM}{tv nv pv gv kv:Z}{ts:List Tk}{z:Z}(h:zJ B w p m tv nv pv gv kv)(b:w.ownsRow B 239 11 z ts.length (ts.flatMap tkV)):zJ B (w.setCell ⟨p,11,O⟩ z) p {m with tg:=ts} tv nv pv gv z:=by
 have a:zk (fun k=>k=p) w (w.setCell ⟨p,11,O⟩ z):=zn (zk.refl _ _) rfl
 exact⟨xm (i:=11) h.head z,h.base,zi h.trow a (zt h.head h.trow (by decide)),zi h.nrow a (zt h.head h.nrow (by decide)),zi h.prow a (zt h.head h.prow (by decide)),zi h.grow a (zt h.head h.grow (by decide)),zi b a (zt h.head b (by decide))⟩
theorem zlG{w:Y}{g:Nat}{a:Tk}(h:w.1[g]?=U (yc a))(x:Tk):(((((((((((w.setCell ⟨g,0,O⟩ (I J x.kind)).setCell ⟨g,1,O⟩ (I J x.s.t)).setCell ⟨g,2,O⟩ (I J x.s.se)).setCell ⟨g,3,O⟩ (I J x.s.we)).setCell ⟨g,4,O⟩ (I J x.si)).setCell ⟨g,5,O⟩ (I J x.tc)).setCell ⟨g,6,O⟩ (I J x.rest)).setCell ⟨g,7,O⟩ (I J x.ep)).setCell ⟨g,8,O⟩ (I J x.num)).setCell ⟨g,9,O⟩ (I J x.slot)).setCell ⟨g,10,O⟩ (I J x.till)).1[g]?=U (yc x):=by
 have c:(w.setCell ⟨g,0,O⟩ (I J x.kind)).1[g]?=U (.cells #[I J x.kind,I J a.s.t,I J a.s.se,I J a.s.we,I J a.si,I J a.tc,I J a.rest,I J a.ep,I J a.num,I J a.slot,I J a.till] 239 (0,0)):=xm (i:=0) h (I J x.kind)
 have d:((w.setCell ⟨g,0,O⟩ (I J x.kind)).setCell ⟨g,1,O⟩ (I J x.s.t)).1[g]?=U (.cells #[I J x.kind,I J x.s.t,I J a.s.se,I J a.s.we,I J a.si,I J a.tc,I J a.rest,I J a.ep,I J a.num,I J a.slot,I J a.till] 239 (0,0)):=xm (i:=1) c (I J x.s.t)
 have e:(((w.setCell ⟨g,0,O⟩ (I J x.kind)).setCell ⟨g,1,O⟩ (I J x.s.t)).setCell ⟨g,2,O⟩ (I J x.s.se)).1[g]?=U (.cells #[I J x.kind,I J x.s.t,I J x.s.se,I J a.s.we,I J a.si,I J a.tc,I J a.rest,I J a.ep,I J a.num,I J a.slot,I J a.till] 239 (0,0)):=xm (i:=2) d (I J x.s.se)
 have f:((((w.setCell ⟨g,0,O⟩ (I J x.kind)).setCell ⟨g,1,O⟩ (I J x.s.t)).setCell ⟨g,2,O⟩ (I J x.s.se)).setCell ⟨g,3,O⟩ (I J x.s.we)).1[g]?=U (.cells #[I J x.kind,I J x.s.t,I J x.s.se,I J x.s.we,I J a.si,I J a.tc,I J a.rest,I J a.ep,I J a.num,I J a.slot,I J a.till] 239 (0,0)):=xm (i:=3) e (I J x.s.we)
 have j:(((((w.setCell ⟨g,0,O⟩ (I J x.kind)).setCell ⟨g,1,O⟩ (I J x.s.t)).setCell ⟨g,2,O⟩ (I J x.s.se)).setCell ⟨g,3,O⟩ (I J x.s.we)).setCell ⟨g,4,O⟩ (I J x.si)).1[g]?=U (.cells #[I J x.kind,I J x.s.t,I J x.s.se,I J x.s.we,I J x.si,I J a.tc,I J a.rest,I J a.ep,I J a.num,I J a.slot,I J a.till] 239 (0,0)):=xm (i:=4) f (I J x.si)
 have k:((((((w.setCell ⟨g,0,O⟩ (I J x.kind)).setCell ⟨g,1,O⟩ (I J x.s.t)).setCell ⟨g,2,O⟩ (I J x.s.se)).setCell ⟨g,3,O⟩ (I J x.s.we)).setCell ⟨g,4,O⟩ (I J x.si)).setCell ⟨g,5,O⟩ (I J x.tc)).1[g]?=U (.cells #[I J x.kind,I J x.s.t,I J x.s.se,I J x.s.we,I J x.si,I J x.tc,I J a.rest,I J a.ep,I J a.num,I J a.slot,I J a.till] 239 (0,0)):=xm (i:=5) j (I J x.tc)
 have l:(((((((w.setCell ⟨g,0,O⟩ (I J x.kind)).setCell ⟨g,1,O⟩ (I J x.s.t)).setCell ⟨g,2,O⟩ (I J x.s.se)).setCell ⟨g,3,O⟩ (I J x.s.we)).setCell ⟨g,4,O⟩ (I J x.si)).setCell ⟨g,5,O⟩ (I J x.tc)).setCell ⟨g,6,O⟩ (I J x.rest)).1[g]?=U (.cells #[I J x.kind,I J x.s.t,I J x.s.se,I J x.s.we,I J x.si,I J x.tc,I J x.rest,I J a.ep,I J a.num,I J a.slot,I J a.till] 239 (0,0)):=xm (i:=6) k (I J x.rest)
 have m:((((((((w.setCell ⟨g,0,O⟩ (I J x.kind)).setCell ⟨g,1,O⟩ (I J x.s.t)).setCell ⟨g,2,O⟩ (I J x.s.se)).setCell ⟨g,3,O⟩ (I J x.s.we)).setCell ⟨g,4,O⟩ (I J x.si)).setCell ⟨g,5,O⟩ (I J x.tc)).setCell ⟨g,6,O⟩ (I J x.rest)).setCell ⟨g,7,O⟩ (I J x.ep)).1[g]?=U (.cells #[I J x.kind,I J x.s.t,I J x.s.se,I J x.s.we,I J x.si,I J x.tc,I J x.rest,I J x.ep,I J a.num,I J a.slot,I J a.till] 239 (0,0)):=xm (i:=7) l (I J x.ep)
 have n:(((((((((w.setCell ⟨g,0,O⟩ (I J x.kind)).setCell ⟨g,1,O⟩ (I J x.s.t)).setCell ⟨g,2,O⟩ (I J x.s.se)).setCell ⟨g,3,O⟩ (I J x.s.we)).setCell ⟨g,4,O⟩ (I J x.si)).setCell ⟨g,5,O⟩ (I J x.tc)).setCell ⟨g,6,O⟩ (I J x.rest)).setCell ⟨g,7,O⟩ (I J x.ep)).setCell ⟨g,8,O⟩ (I J x.num)).1[g]?=U (.cells #[I J x.kind,I J x.s.t,I J x.s.se,I J x.s.we,I J x.si,I J x.tc,I J x.rest,I J x.ep,I J x.num,I J a.slot,I J a.till] 239 (0,0)):=xm (i:=8) m (I J x.num)
 have o:((((((((((w.setCell ⟨g,0,O⟩ (I J x.kind)).setCell ⟨g,1,O⟩ (I J x.s.t)).setCell ⟨g,2,O⟩ (I J x.s.se)).setCell ⟨g,3,O⟩ (I J x.s.we)).setCell ⟨g,4,O⟩ (I J x.si)).setCell ⟨g,5,O⟩ (I J x.tc)).setCell ⟨g,6,O⟩ (I J x.rest)).setCell ⟨g,7,O⟩ (I J x.ep)).setCell ⟨g,8,O⟩ (I J x.num)).setCell ⟨g,9,O⟩ (I J x.slot)).1[g]?=U (.cells #[I J x.kind,I J x.s.t,I J x.s.se,I J x.s.we,I J x.si,I J x.tc,I J x.rest,I J x.ep,I J x.num,I J x.slot,I J a.till] 239 (0,0)):=xm (i:=9) n (I J x.slot)
 have b:(((((((((((w.setCell ⟨g,0,O⟩ (I J x.kind)).setCell ⟨g,1,O⟩ (I J x.s.t)).setCell ⟨g,2,O⟩ (I J x.s.se)).setCell ⟨g,3,O⟩ (I J x.s.we)).setCell ⟨g,4,O⟩ (I J x.si)).setCell ⟨g,5,O⟩ (I J x.tc)).setCell ⟨g,6,O⟩ (I J x.rest)).setCell ⟨g,7,O⟩ (I J x.ep)).setCell ⟨g,8,O⟩ (I J x.num)).setCell ⟨g,9,O⟩ (I J x.slot)).setCell ⟨g,10,O⟩ (I J x.till)).1[g]?=U (.cells #[I J x.kind,I J x.s.t,I J x.s.se,I J x.s.we,I J x.si,I J x.tc,I J x.rest,I J x.ep,I J x.num,I J x.slot,I J x.till] 239 (0,0)):=xm (i:=10) o (I J x.till)
 exact b
theorem Z9{B:Nat}{w:Y}{p:Nat}{m:RM}{tv nv pv gv kv:Z}(h:zJ B w p m tv nv pv gv kv)(hB:B<=w.1.size)(hc:m.c.ok)(aA:m.nu.length<=1000000000)(ax:m.gone.length<=1000000000000)(aC:m.pub.length<=1000000000000)(be:m.tg.length<=1000000000000)(aB:∀x∈m.nu,x.ok)(a8:0<=m.now/\m.now<=100000):
  Calls prog 199 #[.pointer (U ⟨p,0,O⟩)] w fun e w'=>e=.returned (.tuple #[])/\∃aH,zJ B w' p m.settled tv nv pv gv aH/\zk (fun k=>k=p) w w'/\∀k,aH.ownBlock=U k->w.1.size<=k:=by
 have H:=ze h
 have HS:=ze (vy h hc aA aB)
 have bl:=vR (nu:=m.nu) hc.n4 aA
 have HM:=ze (zjP hc aB)
 obtain⟨ak,ck,aU⟩:=zq h.krow
 subst aU
 have hp:=h.lt
 have ar:Hid (m.settled={m with tg:=xY m (zS m.c m.nu) (zS m.c m.nu).length}):=rfl
 clear h
 generalize hL:zS m.c m.nu=L at*
 clear hL
 go_enter func199,ntmps199
 go_wp2_with fail
 refine(ud HS).mono ?_
 rintro e F ⟨v,rfl,ah,ac⟩
 obtain⟨al,cl,aY⟩:=zq ah
 subst aY
 have aM:=ze ah
 have aq:=ze ac
 have aj:=ac.size
 clear ah ac
 have n:=ze (fun(u:Y) (hu:N F.1.size F u)=>(ud H).later ((ud aq).trans (hu.mono aj)))
 have a2:=ze (fun(u:Y) (hu:N F.1.size F u)=>xv (ud aM) hu)
 go_wp2_with fail
 go_loopw [3,4,5,6,7,8] (fun z y _ _ _ _ wr=>∃(i:Nat),i<=L.length/\y=I J i/\wr.ownsRow F.1.size 239 11 z (xY m L i).length ((xY m L i).flatMap tkV)/\N F.1.size F wr) (fun _ y _ _ _ _ _=>L.length-(intOf y).toNat)
 case atStart=>exact⟨0,Nat.zero_le _,rfl,World.ownsRow_nil _ _ _ _,S _ _⟩
 case round=>
  obtain⟨i,hi,rfl,hz,R⟩:=hrel
  obtain⟨az,cz,am⟩:=zq hz
  subst am
  have r:=ze hz
  have f:=ze R
  have b6:=KL m L i hi
  clear hz R
  by_cases aS:i<L.length
  ·obtain⟨s,hs⟩:=xr aS
   have aD:=ud HM s (List.mem_of_getElem? hs)
   have bd:(i:Int)<L.length:=by omega
   have aL:=ze (Yx m L i s hs)
   have au:=ze hs
   clear hs
   generalize xY m L i=A at*
   go_wp2_with fail
   go_loopw [3,5,6,7,8] (fun z y _ _ _ wr=>∃(q:Nat),q<=2/\y=I J ((q:Int)+1)/\wr.ownsRow F.1.size 239 11 z (Zm m L A s q).length ((Zm m L A s q).flatMap tkV)/\N F.1.size F wr) (fun _ y _ _ _ _=>3-(intOf y).toNat)
   case atStart=>exact⟨0,by omega,rfl,ud r,ud f⟩
   case round=>
    clear r f
    obtain⟨q,hq,rfl,hz,R⟩:=hrel
    obtain⟨b7,b9,am⟩:=zq hz
    subst am
    have r:=ze hz
    have f:=ze R
    clear hz R
    have bg:=zaW m L A s q
    by_cases bj:q<2
    ·have bk:(q:Int)+1<=2:=by omega
     have a1:Hid (Calls prog 221 #[.pointer (U ⟨p,0,O⟩),I J ((q:Int)+1),.agg #[I J s.t,I J s.se,I J s.we],.slice al L.length cl] wr fun e w'=>e=.returned (.bool (kj m ((q:Int)+1) s L))/\N wr.1.size wr w'):=by
      have h1:=zdI (ud n wr (ud f)) hc ax aC a8 s aD L _ (by omega) (ud a2 wr (ud f)) (ud HM)
      have h2:=zdK (ud n wr (ud f)) hc ax aC a8 s aD L _ (by omega) (ud a2 wr (ud f)) (ud HM)
      rcases(show q=0\/q=1 by omega)with rfl|rfl
      ·exact h1
      ·exact h2
     obtain⟨g,b3,ai,_,a5,x0,x1,x2⟩:=zbn (ud a2 wr (ud f)) (ud au)
     injection ai with V W X
     subst V
     clear W X
     have a7:Hid (Zm m L A s (q+1)=yJ m L ((q:Int)+1) (Zm m L A s q) s):=rfl
     generalize Zm m L A s q=P at*
     cases E:kj m ((q:Int)+1) s L
     ·rw[E]at a1
      have aa:=ze (show yJ m L ((q:Int)+1) P s=P by simp[yJ,E])
      clear E
      go_wp2_with fail
      refine(ud a1).mono ?_
      rintro e w1 ⟨rfl,l⟩
      go_wp2_with fail
      go_roundw
      case rel=>exact⟨q+1,by omega,by go_num,by rw[ud a7,ud aa];exact xv (ud r) l,(ud f).trans (l.mono (ud f).size)⟩
      case measure=>simp[intOf];omega
     ·rw[E]at a1
      have aa:=ze (show yJ m L ((q:Int)+1) P s=yN xZ (qF m ((q:Int)+1) s) P by simp[yJ,E])
      clear E
      go_wp2_with fail
      refine(ud a1).mono ?_
      rintro e w1 ⟨rfl,l⟩
      have a0:=ze ((ud f).trans (l.mono (ud f).size))
      have z0:=(l.cell (p:=⟨g,i*3,O⟩) a5).trans x0
      have z1:=(l.cell (p:=⟨g,i*3+1,O⟩) a5).trans x1
      have z2:=(l.cell (p:=⟨g,i*3+2,O⟩) a5).trans x2
      obtain⟨r7,r8,r9,an,a6,ao,ap⟩:=(ud n w1 (ud a0)).rest
      have bh:=(ud n w1 (ud a0)).lt
      have bb:g<w1.1.size:=Nat.lt_of_lt_of_le a5 l.size
      have aO:=ze (xv (ud r) l)
      clear r8 r9 an a6 ao ap x0 x1 x2 l
      go_wp2_with fail
      go_region
      go_wp2_with fail
      go_loopw [8] (fun y wq=>∃(k:Nat),k<=m.tg.length/\y=I J k/\wq.1[w1.1.size]?=U (yc ((m.tg.take k).foldl (qj ((q:Int)+1) s) (zaX m ((q:Int)+1) s)))/\N w1.1.size w1 wq) (fun y _=>m.tg.length-(intOf y).toNat)
      case atStart=>exact⟨0,Nat.zero_le _,rfl,zo w1 _,((S _ _).alloc (D _) _).drew⟩
      case round=>
       clear z0 z1 z2 r7
       obtain⟨k,hk,rfl,hT,ad⟩:=hrel
       have ab:w1.1.size<wr.1.size:=zd hT
       have HQ:=ze ((ud a0).trans (ad.mono (ud a0).size))
       have C:=ze ad
       obtain⟨r7,r8,r9,an,a6,ao,ap⟩:=(ud n wr (ud HQ)).rest
       have aV:=(ud n wr (ud HQ)).lt
       obtain⟨g',b4,ai,_,bc,x0,x1,x2⟩:=zbn (ud a2 wr (ud HQ)) (ud au)
       injection ai with V W X
       cases V
       clear r7 r8 r9 an ao ap ad W X
       by_cases ay:k<m.tg.length
       ·obtain⟨x,hx⟩:=xr ay
        obtain⟨Q,b5,aZ,_,d,y0,y1,y2,y3,y4,y5,y6,y7,y8,y9,b2⟩:=Zd (ud n wr (ud HQ)).krow hx
        injection aZ with aE aF aG
        subst aE
        have a9:=ze (zfT m ((q:Int)+1) s k x hx)
        have bf:(k:Int)<m.tg.length:=by omega
        generalize(m.tg.take k).foldl (qj ((q:Int)+1) s) (zaX m ((q:Int)+1) s)=T at*
        have HT:=ze hT
        clear hx hT aF aG
        have af:Nonempty (zm wr.1.size wr):=zm.some _ _
        have ae:=fun(u:zm wr.1.size wr) b o h=>u.cell b o h
        by_cases o1:x.kind=(q:Int)+1
        ·have b0:(x.kind==(q:Int)+1)=true:=by simp[o1]
         by_cases o2:x.s=s
         ·have K:=ze (zia (t:=T) o1 o2)
          have o3:x.s.t=s.t:=by rw[o2]
          have o4:x.s.se=s.se:=by rw[o2]
          have o5:x.s.we=s.we:=by rw[o2]
          have p3:(x.s.t==s.t)=true:=by simp[o3]
          have p4:(x.s.se==s.se)=true:=by simp[o4]
          have p5:(x.s.we==s.we)=true:=by simp[o5]
          clear o1 o2 o3 o4 o5
          go_wp2_with fail
          refine zh wr.1.size (by kernel_rfl) (by kernel_rfl) ?_
          repeat(go_big_quiet_step (fail))
          refine wpQuiet_nil ?_
          rintro⟨w2,a⟩
          dsimp only
          clear ae af
          have bm:=(a.cell (p:=⟨p,11,O⟩) aV).trans a6
          have c0:=(a.cell (p:=⟨Q,k*11,O⟩) d).trans y0
          have c1:=(a.cell (p:=⟨Q,k*11+1,O⟩) d).trans y1
          have c2:=(a.cell (p:=⟨Q,k*11+2,O⟩) d).trans y2
          have c3:=(a.cell (p:=⟨Q,k*11+3,O⟩) d).trans y3
          have c4:=(a.cell (p:=⟨Q,k*11+4,O⟩) d).trans y4
          have c5:=(a.cell (p:=⟨Q,k*11+5,O⟩) d).trans y5
          have c6:=(a.cell (p:=⟨Q,k*11+6,O⟩) d).trans y6
          have c7:=(a.cell (p:=⟨Q,k*11+7,O⟩) d).trans y7
          have c8:=(a.cell (p:=⟨Q,k*11+8,O⟩) d).trans y8
          have c9:=(a.cell (p:=⟨Q,k*11+9,O⟩) d).trans y9
          have b8:=(a.cell (p:=⟨Q,k*11+10,O⟩) d).trans b2
          have a3:=(a.block _ ab).trans (ud HT)
          obtain⟨t0,t1,t2,t3,t4,t5,t6,t7,t8,t9,b1⟩:=xG a3
          have tf:∀j,w2.frozen? ⟨w1.1.size,j,O⟩=false:=fun j=>zD a3 j
          have M:=ze a3
          have G:=ze a
          clear a3 a
          go_wp2_with fail
          go_roundw
          case rel=>
           refine⟨k+1,by omega,by go_num,by rw[ud a9,ud K];exact zlG (ud M) x,?_⟩
           repeat(refine qe ?_ (D _))
           exact(ud C).trans ((ud G).mono (ud C).size)
          case measure=>simp[intOf];omega
         ·have K:=ze (zhZ (kind:=(q:Int)+1) (t:=T) o2)
          have hd:=zjS o2
          clear o1 o2
          rcases hd with hd|⟨aQ,hd⟩|⟨aQ,ba,hd⟩
          all_goals
           go_wp2_with fail
           refine zh wr.1.size (by kernel_rfl) (by kernel_rfl) ?_
           repeat(go_big_quiet_step (fail))
           refine wpQuiet_nil ?_
           rintro⟨w2,a⟩
           dsimp only
           clear ae af
           have M:=ze ((a.block _ ab).trans (ud HT))
           have G:=ze a
           clear a
           go_wp2_with fail
           go_roundw
           case rel=>exact⟨k+1,by omega,by go_num,by rw[ud a9,ud K];exact ud M,(ud C).trans ((ud G).mono (ud C).size)⟩
           case measure=>simp[intOf];omega
        ·have K:=ze (zhY (s:=s) (t:=T) o1)
         have b0:(x.kind==(q:Int)+1)=false:=by simp[o1]
         clear o1
         go_wp2_with fail
         refine zh wr.1.size (by kernel_rfl) (by kernel_rfl) ?_
         repeat(go_big_quiet_step (fail))
         refine wpQuiet_nil ?_
         rintro⟨w2,a⟩
         dsimp only
         clear ae af
         have M:=ze ((a.block _ ab).trans (ud HT))
         have G:=ze a
         clear a
         go_wp2_with fail
         go_roundw
         case rel=>exact⟨k+1,by omega,by go_num,by rw[ud a9,ud K];exact ud M,(ud C).trans ((ud G).mono (ud C).size)⟩
         case measure=>simp[intOf];omega
       ·have aT:k=m.tg.length:=by omega
        have av:(m.tg.take k).foldl (qj ((q:Int)+1) s) (zaX m ((q:Int)+1) s)=qF m ((q:Int)+1) s:=by rw[aT,List.take_length];rfl
        rw[av]at hT
        generalize qF m ((q:Int)+1) s=T at*
        obtain⟨t0,t1,t2,t3,t4,t5,t6,t7,t8,t9,b1⟩:=xG hT
        have aN:=ze (ziz F.1.size P _ T wr (by omega) (xv (ud aO) (ud C)))
        clear hT av
        go_wp2_with fail
        refine(ud aN).mono ?_
        rintro e w4 ⟨v4,rfl,ag,aw⟩
        obtain⟨a4,c4,aX⟩:=zq ag
        subst aX
        have aK:=ze ag
        have aJ:=ze ((ud HQ).trans (aw.mono (ud HQ).size))
        clear ag aw
        go_wp2_with fail
        go_roundw
        case rel=>exact⟨q+1,by omega,by go_num,by rw[ud a7,ud aa];exact yE (ud aK) (by have:=(ud HQ).size;omega),ud aJ⟩
        case measure=>simp[intOf];omega
    ·have aW:q=2:=by omega
     subst aW
     go_wp2_with fail
     go_roundw
     case rel=>exact⟨i+1,by omega,by go_num,by rw[ud aL];exact ud r,ud f⟩
     case measure=>simp[intOf];omega
  ·have aR:i=L.length:=by omega
   subst aR
   have hr:=ud n wr (ud f)
   obtain⟨-,-,-,-,-,-,-,-,-,-,-,a6,-⟩:=zc hr.head
   have rf:∀j,wr.frozen? ⟨p,j,O⟩=false:=fun j=>zD hr.head j
   have aP:N w.1.size w wr:=(ud aq).trans ((ud f).mono aj)
   have bi:=hr.lt
   have aI:=ze (hr.setTasks (ts:=xY m L L.length) (yE (ud r) (show B<=F.1.size by omega)))
   have FO:=ze (fun k hk=>((ud r).lt k hk).1)
   have FK:=ze (zn (i:=11) (v:=.slice az (xY m L L.length).length cz) (qS (zk.refl (fun k=>k=p) w) aP) rfl)
   clear hr
   go_wp2_with fail
   go_end0
   refine⟨rfl,_,?_,ud FK,fun k hk=>Nat.le_trans aj (ud FO k hk)⟩
   rw[ud ar]
   exact ud aI
theorem zJ.setNow{B:Nat}{w:Y}{p:Nat}{m:RM}{tv nv pv gv kv:Z}(h:zJ B w p m tv nv pv gv kv)(n:Int):zJ B (w.setCell ⟨p,7,O⟩ (I J n)) p {m with now:=n} tv nv pv gv kv:=by
 have a:zk (fun k=>k=p) w (w.setCell ⟨p,7,O⟩ (I J n)):=zn (zk.refl _ _) rfl
 exact⟨xm (i:=7) h.head (I J n),h.base,zi h.trow a (zt h.head h.trow (by decide)),zi h.nrow a (zt h.head h.nrow (by decide)),zi h.prow a (zt h.head h.prow (by decide)),zi h.grow a (zt h.head h.grow (by decide)),zi h.krow a (zt h.head h.krow (by decide))⟩
def RM.tick(m:RM)(n:Int):RM×Int:=if n<1\/1000<n\/100000<m.now+n then(m,5)else({m with now:=m.now+n}.settled,0)
theorem zcB{m:RM}{n:Int}(h:n<1\/1000<n\/100000<m.now+n):m.tick n=(m,5):=by simp[RM.tick,h]
theorem Tryz.infoNumber:(prog.info? 269).map (fun i=>(i.zero,i.size,i.bytes))=U (U (.agg #[I J 0,I J 0,I i32 0]),3,24):=by kernel_rfl
def zaY(x:Nm):Obj:=.cells #[I J x.se,I J x.tm,I i32 x.val] 269 (0,0)
theorem zac{w:Y}{ops:Array Oper}{o:Oper}{a:Act}{K:Act->Y->Prop}{Q:Exit->Act->Y->Prop}{E:Prop}(m:o.guard=O)(s x:Operand)
  (u:o.op=.call {callee:=.builtin .append,args:=#[s,x],argTypes:=#[186,186]}) (base:Nat) (v:Z) (l:List Nm) (f:Nm) (z:a.eval s=v) (e:w.ownsRow base 269 3 v l.length (l.flatMap nmV))
  (j:Nat) (B:a.eval x=.slice (U ⟨j,0,O⟩) 1 1) (k:w.1[j]?=U (zaY f)) (F:l.length<=1099511627776) (c:base<=w.1.size)
  (h:∀g cap w',w'.ownsRow base 269 3 (.slice (U ⟨g,0,O⟩) (l.length+1) cap) (l++[f]).length ((l++[f]).flatMap nmV)->w.grownBy w' v.ownBlock->(v.ownBlock=U g\/g=w.1.size)->g<w'.1.size->K (a.put o.dst (.slice (U ⟨g,0,O⟩) (l.length+1) cap)) w'):
  if Region.wanted o (yielded ops a.tmps)=true then Oper.wp prog o a w K Q else E:=by
 have A:Region.wanted o (yielded ops a.tmps)=true:=by simp[Region.wanted,m]
 rw[if_pos A]
 have b:=Tryz.infoNumber
 cases n:prog.info? 269 with
 |none=>simp[n]at b
 |some i=>
  simp only[n,Option.map_some,Option.some.injEq,Prod.mk.injEq]at b
  obtain⟨C,d,hby⟩:=b
  obtain⟨g,cap,w',y,p,_,q,r,t⟩:=vi (P:=prog) w 186 o.type base 269 i _ 3 24 underlying186 n C d hby rfl (by decide) v l.length (l.flatMap nmV) e ⟨j,0,O⟩ 1 1 (nmV f) rfl
   (World.news_of_block (cs:=(nmV f).toArray) k) (zfA f) (by decide) (by simp only[maxLen];omega) (by omega) c
  unfold Oper.wp
  simp[execOp,u,resolve,invoke,builtin,z,B,y,Result.andThen]
  exact h g cap w' (Qx p) q r t
theorem Z5{w:Y}{base size n:Nat}{e:TypeId}{v:Z}{xs:List Z}(h:w.ownsRow base e size v n xs):w.drew.ownsRow base e size v n xs:=h
theorem jg{w w':Y}{row:Option Nat}(h:w.drew.grownBy w' row):w.grownBy w' row:=⟨h.os,h.tape,h.output,h.size,h.block⟩
theorem Z4(w:Y)(o:Obj):(w.alloc o).drew.1[w.1.size]?=U o:=zo w o
theorem kN(w:Y)(o:Obj):(w.alloc o).drew.1.size=w.1.size+1:=zF w o
theorem xK{w:Y}{i j r s p q:Nat}{e f:TypeId}{g h:Z}{t u:List Z}(l:w.ownsRow i e r g p t)(m:w.ownsRow j f s h q u)(n:e≠f):∀k,g.ownBlock=U k->¬h.ownBlock=U k:=fun k o d=>by
 obtain⟨v,c⟩:=zO l o
 obtain⟨x,a⟩:=zO m d
 rw[c]at a
 injection a with b;injection b with _ b;exact n b
theorem zJ.setNums{B:Nat}{w f:Y}{p:Nat}{m:RM}{tv nv pv gv kv z:Z}{x:Nm}(h:zJ B w p m tv nv pv gv kv)(c:zk (fun k=>nv.ownBlock=U k) w f)(b:f.ownsRow B 269 3 z (m.nu++[x]).length ((m.nu++[x]).flatMap nmV)):zJ B (f.setCell ⟨p,8,O⟩ z) p {m with nu:=m.nu++[x]} tv z pv gv kv:=by
 have a:=c.heap h.head (fun e=>zt h.head h.nrow (by decide) p e rfl)
 have d:zk (fun k=>k=p) f (f.setCell ⟨p,8,O⟩ z):=zn (zk.refl _ _) rfl
 have g:=zi h.trow c (xK h.trow h.nrow (by decide))
 have j:=zi h.prow c (xK h.prow h.nrow (by decide))
 have l:=zi h.grow c (xK h.grow h.nrow (by decide))
 have n:=zi h.krow c (xK h.krow h.nrow (by decide))
 exact⟨xm (i:=8) a z,h.base,zi g d (zt a g (by decide)),zi b d (zt a b (by decide)),zi j d (zt a j (by decide)),zi l d (zt a l (by decide)),zi n d (zt a n (by decide))⟩
def yk(m:RM)(L:List Sg)(x:Nm)(k:Nat):Int:=(List.range k).foldl (fun(c:Int) (t:Nat)=>if zI m.c (t:Int) x∈L then c else c+2) (m.used+1)
theorem zaJ{m:RM}{L:List Sg}{x:Nm}{k:Nat}(h:zI m.c (k:Int) x∈L):yk m L x (k+1)=yk m L x k:=by simp[yk,List.range_succ,h]
theorem V7{m:RM}{L:List Sg}{x:Nm}{k:Nat}(h:¬zI m.c (k:Int) x∈L):yk m L x (k+1)=yk m L x k+2:=by simp[yk,List.range_succ,h]
theorem QV(m:RM)(L:List Sg)(x:Nm):∀k:Nat,m.used+1<=yk m L x k/\yk m L x k<=m.used+1+2*k
 |0=>by simp[yk]
 |k+1=>by
  have:=QV m L x k
  by_cases h:zI m.c (k:Int) x∈L
  ·rw[zaJ h];omega
  ·rw[V7 h];omega
def RM.ingest(m:RM)(se tm val:Int):RM×Int:=
 if se<0\/4<=se then(m,2)
 else if tm<0\/m.now<tm then(m,5)
 else if tm<m.now-m.c.la then(m,3)
 else if m.c.qu<yk m (zS m.c m.nu) ⟨se,tm,val⟩ m.c.n then(m,4)
 else({m with nu:=m.nu++[Nm.mk se tm val]}.settled,0)
theorem XG{m:RM}{se tm val:Int}(h:se<0\/4<=se):m.ingest se tm val=(m,2):=by simp[RM.ingest,h]
theorem ZA{m:RM}{se tm val:Int}(h:¬(se<0\/4<=se))(a:tm<0\/m.now<tm):m.ingest se tm val=(m,5):=by unfold RM.ingest;rw[if_neg h,if_pos a]
theorem Yc{m:RM}{se tm val:Int}(h:¬(se<0\/4<=se))(a:¬(tm<0\/m.now<tm))(b:tm<m.now-m.c.la):m.ingest se tm val=(m,3):=by unfold RM.ingest;rw[if_neg h,if_neg a,if_pos b]
theorem Yb{m:RM}{se tm val:Int}(h:¬(se<0\/4<=se))(a:¬(tm<0\/m.now<tm))(b:¬tm<m.now-m.c.la)(d:m.c.qu<yk m (zS m.c m.nu) ⟨se,tm,val⟩ m.c.n):m.ingest se tm val=(m,4):=by unfold RM.ingest;rw[if_neg h,if_neg a,if_neg b,if_pos d]
theorem Jn{m:RM}{se tm val:Int}(h:¬(se<0\/4<=se))(a:¬(tm<0\/m.now<tm))(b:¬tm<m.now-m.c.la)(d:¬m.c.qu<yk m (zS m.c m.nu) ⟨se,tm,val⟩ m.c.n):m.ingest se tm val=({m with nu:=m.nu++[Nm.mk se tm val]}.settled,0):=by unfold RM.ingest;rw[if_neg h,if_neg a,if_neg b,if_neg d]
def zeY(B:Nat)(w:Y)(p:Nat)(m:RM)(tv nv pv gv kv:Z)(w':Y):Prop:=
 ∃b a,zJ B w' p m tv b pv gv a/\zk (fun k=>k=p\/nv.ownBlock=U k) w w'/\(∀k,b.ownBlock=U k->nv.ownBlock=U k\/w.1.size<=k)/\∀k,a.ownBlock=U k->kv.ownBlock=U k\/w.1.size<=k
theorem yn{B:Nat}{w w':Y}{p:Nat}{m:RM}{tv nv pv gv kv:Z}(h:zJ B w p m tv nv pv gv kv)(a:N w.1.size w w'):zeY B w p m tv nv pv gv kv w':=
 ⟨nv,kv,h.later a,zk.of_below a,fun _ h=> .inl h,fun _ h=> .inl h⟩
theorem zbj{B:Nat}{w:Y}{p:Nat}{m:RM}{tv nv pv gv kv:Z}(h:zJ B w p m tv nv pv gv kv)(hB:B<=w.1.size)(hc:m.c.ok)(bh:m.nu.length<=100000000)(ak:m.gone.length<=1000000000000)(aP:m.pub.length<=1000000000000)(aM:m.tg.length<=1000000000000)(V:∀x∈m.nu,x.ok)(ap:0<=m.now/\m.now<=100000)(hu:m.used<=1000000000000000000)(se tm val:Int)(a3: -2147483648<=val/\val<=2147483647):
  Calls prog 152 #[.pointer (U ⟨p,0,O⟩),I J se,I J tm,I i32 val] w fun e w'=>e=.returned (I J (m.ingest se tm val).2)/\zeY B w p (m.ingest se tm val).1 tv nv pv gv kv w':=by
 obtain⟨aT,aU⟩:=ap
 obtain⟨r7,r8,r9,aW,aX,aY,aZ⟩:=h.rest
 have hp:=h.lt
 obtain⟨c0,c1,c2,c3,c4,c5,c6⟩:=h.conf
 obtain⟨be,bf⟩:=hc.la
 have H:=ze h
 obtain⟨an,cn,aO⟩:=zq h.nrow
 subst aO
 obtain⟨b9,ct,aR⟩:=zq h.trow
 subst aR
 clear r8 r9 aW aX aY aZ h c0 c1 c3 c4 c5 c6
 by_cases e1:se<0
 ·rw[XG (.inl e1)]
  go_enter func152,ntmps152
  go_wp2_with fail
  go_ret
  exact⟨rfl,yn (ud H) (S _ _)⟩
 by_cases e2:4<=se
 ·rw[XG (.inr e2)]
  go_enter func152,ntmps152
  go_wp2_with fail
  go_ret
  exact⟨rfl,yn (ud H) (S _ _)⟩
 by_cases e3:tm<0
 ·rw[ZA (by omega) (.inl e3)]
  go_enter func152,ntmps152
  go_wp2_with fail
  go_ret
  exact⟨rfl,yn (ud H) (S _ _)⟩
 by_cases e4:m.now<tm
 ·rw[ZA (by omega) (.inr e4)]
  go_enter func152,ntmps152
  go_wp2_with fail
  go_ret
  exact⟨rfl,yn (ud H) (S _ _)⟩
 have ao:Nonempty (zm w.1.size w):=zm.some _ _
 have am:=fun(u:zm w.1.size w) b o h=>u.cell b o h
 by_cases e5:tm<m.now-m.c.la
 ·rw[Yc (by omega) (by omega) e5]
  go_enter func152,ntmps152
  go_wp2_with fail
  refine zh w.1.size (by kernel_rfl) (by kernel_rfl) ?_
  repeat(go_big_quiet_step (fail))
  refine wpQuiet_nil ?_
  rintro⟨w1,q⟩
  dsimp only
  clear am ao
  go_wp2_with fail
  go_ret
  exact⟨rfl,yn (ud H) q⟩
 have aw:(Nm.mk se tm val).ok:=⟨a3.1,a3.2,by show 0<=tm;omega,by show tm<=100000;omega,by show 0<=se;omega,by show se<4;omega⟩
 have aQ:=vR (nu:=m.nu) hc.n4 (by omega)
 have av:=XT (c:=m.c) (rc:=m.gone) (l:=zS m.c m.nu) aQ (by omega) V
 have bk:0<=m.used:=av.1
 have a5:=ze (Yb (m:=m) (se:=se) (tm:=tm) (val:=val) (by omega) (by omega) (by omega))
 have aD:=ze (Jn (m:=m) (se:=se) (tm:=tm) (val:=val) (by omega) (by omega) (by omega))
 have bg:=hc.n4
 obtain⟨bi,bj⟩:=hc.qu
 clear av
 go_enter func152,ntmps152
 go_wp2_with fail
 refine zh w.1.size (by kernel_rfl) (by kernel_rfl) ?_
 repeat(go_big_quiet_step (fail))
 refine wpQuiet_nil ?_
 rintro⟨w1,q⟩
 dsimp only
 clear am ao
 have r:N w.1.size w (w1.alloc (zaY ⟨se,tm,val⟩)):=q.alloc q.size _
 have ah:=zo w1 (zaY ⟨se,tm,val⟩)
 have ai:=zF w1 (zaY ⟨se,tm,val⟩)
 have ae:=ze (vy ((ud H).later r) hc (by omega) V)
 have b5:=q.size
 clear q r7 c2
 go_wp2_with fail
 change Calls prog _ _ (w1.alloc (zaY ⟨se,tm,val⟩)) _
 generalize(w1.alloc (zaY ⟨se,tm,val⟩))=X at*
 refine(ud ae).mono ?_
 rintro e w2 ⟨v,rfl,ac,F⟩
 obtain⟨al,cl,aS⟩:=zq ac
 subst aS
 have aF:=ze ac
 have b6:=ze F
 have a1:N w.1.size w w2:=r.trans (F.mono r.size)
 have af:=ze (VU ((ud H).later a1) hc (by omega) ak V)
 clear ac ae
 go_wp2_with fail
 refine(ud af).mono ?_
 rintro e w3 ⟨rfl,a7⟩
 have f:N X.1.size X w3:=F.trans (a7.mono F.size)
 have b0:=ze f
 have A:N w.1.size w w3:=r.trans (f.mono r.size)
 have ad:=ze A
 have aG:=ze (xv (ud aF) a7)
 have ag:=ze ((f.block w1.1.size (by omega)).trans ah)
 have ax:=A.size
 have b8:=ze ai
 clear F a7 f A ah ai a1 af r
 generalize hL:zS m.c m.nu=L at*
 have az:=ze (QV m L ⟨se,tm,val⟩)
 go_wp2_with fail
 go_loopw [11,12,13,14] (fun z y _ _ wr=>∃(k:Nat),k<=m.c.n/\y=I J k/\z=I J (yk m L ⟨se,tm,val⟩ k)/\N w3.1.size w3 wr) (fun _ y _ _ _=>m.c.n-(intOf y).toNat)
 case atStart=>exact⟨0,Nat.zero_le _,rfl,by simp[yk],S _ _⟩
 case round=>
  obtain⟨k,hk,rfl,rfl,G⟩:=hrel
  have T:=ze G
  have E:N w.1.size w wr:=(ud ad).trans (G.mono ax)
  have HR:=ze ((ud H).later E)
  have d:=ze E
  obtain⟨c0,c1,c2,c3,c4,c5,c6⟩:=(ud HR).conf
  have ar:=(ud HR).lt
  have s:=(G.block w1.1.size (zd (ud ag))).trans (ud ag)
  have b7:=ze s
  have aI:=ud az k
  obtain⟨b1,b2⟩:=aI
  have bl:=zd s
  have aH:=ze (xv (ud aG) G)
  clear c0 c1 c2 c3 c4 G E
  by_cases bd:k<m.c.n
  ·obtain⟨n0,n1,n2,-⟩:=zc s
   have aN:(k:Int)<m.c.n:=by omega
   have a6:=ze (ZH (ud HR) hc (k:Int) (by omega) aN ⟨se,tm,val⟩ aw)
   clear s c5
   go_wp2_with fail
   refine(ud a6).mono ?_
   rintro e w4 ⟨rfl,a8⟩
   have aA:=ze (zaJ (m:=m) (L:=L) (x:=⟨se,tm,val⟩) (k:=k))
   have aB:=ze (V7 (m:=m) (L:=L) (x:=⟨se,tm,val⟩) (k:=k))
   generalize yk m L ⟨se,tm,val⟩ k=C at*
   generalize zI m.c (k:Int) ⟨se,tm,val⟩=sg at*
   have aa:∀o,N wr.1.size wr (w4.alloc o):=fun o=>a8.alloc a8.size _
   have Q:=ze (xT X.1.size L _ sg _ (by omega) (xv (ud aH) (aa (.cells #[I J sg.t,I J sg.se,I J sg.we] 232))))
   have R:=ze (aa (.cells #[I J sg.t,I J sg.se,I J sg.we] 232))
   clear aa a8
   rcases kL sg L with⟨hm,P⟩|⟨hm,P⟩
   ·rw[hm]at Q
    have a4:=ze (ud aA P)
    clear hm P
    go_wp2_with fail
    refine(ud Q).mono ?_
    rintro e w5 ⟨rfl,a9⟩
    have FB:=ze ((ud T).trans (((ud R).trans (a9.mono (ud R).size)).mono (ud T).size))
    go_wp2_with fail
    go_roundw
    case rel=>exact⟨k+1,by omega,by go_num,by rw[ud a4],ud FB⟩
    case measure=>simp[intOf];omega
   ·rw[hm]at Q
    have a4:=ze (ud aB P)
    clear hm P
    go_wp2_with fail
    refine(ud Q).mono ?_
    rintro e w5 ⟨rfl,a9⟩
    have FB:=ze ((ud T).trans (((ud R).trans (a9.mono (ud R).size)).mono (ud T).size))
    go_wp2_with fail
    go_roundw
    case rel=>exact⟨k+1,by omega,by go_num,by rw[ud a4],ud FB⟩
    case measure=>simp[intOf];omega
  ·have aL:k=m.c.n:=by omega
   subst aL
   by_cases ab:m.c.qu<yk m L ⟨se,tm,val⟩ m.c.n
   ·have HF:=ze (ud a5 ab)
    generalize yk m L ⟨se,tm,val⟩ m.c.n=C at*
    go_wp2_with fail
    go_ret
    rw[ud HF]
    exact⟨rfl,yn (ud H) (ud d)⟩
   ·have HF:=ze (ud aD (by omega))
    generalize yk m L ⟨se,tm,val⟩ m.c.n=C at*
    go_wp2_with fail
    obtain⟨n0,n1,n2,-⟩:=zc s
    obtain⟨-,-,-,-,-,-,-,-,r8,-⟩:=zc ((ud HR).head)
    have rf:wr.frozen? ⟨p,8,O⟩=false:=zD (ud HR).head 8
    have W:=ze (ud HR).nrow
    have bc:B<=wr.1.size:=Nat.le_trans hB (ud d).size
    have za:∀o:Obj,(wr.alloc o).cell? ⟨p,8,O⟩=U (.slice an m.nu.length cn):=fun o=>(((S wr.1.size wr).alloc (D _) o).cell (p:=⟨p,8,O⟩) ar).trans r8
    clear s
    go_region_law (refine zac rfl (.tmp 84) (.tmp 86) rfl B _ m.nu ⟨se,tm,val⟩ (by simp[Act.eval]) (Z5 ((ud W).alloc _)) wr.1.size (by simp[Act.eval]) (Z4 wr (zaY ⟨se,tm,val⟩)) ?hll ?hbb ?_;(case hll=>omega);(case hbb=>(rw[kN];omega));intro g3 a0 w5 a2 j aj b3;have K:=jg j;clear j;have M:zk (fun k=>(Value.slice an m.nu.length cn).ownBlock=U k) wr w5:=zk.grown ((zk.refl _ _).alloc _) K (fun k hk _=>hk);have aq:w5.1[p]?=wr.1[p]?:=(M.block p ar (fun e=>zt (ud HR).head (ud W) (by decide) p e rfl));have d0:=(World.cell?_of_block (a:=⟨p,8,O⟩) aq).trans r8;have d1:=(World.frozen?_of_block (a:=⟨p,8,O⟩) aq).trans rf)
    all_goals
     have H5:=ze ((ud HR).setNums M a2)
     have bb:wr.1.size<=w5.1.size:=M.size
     have ba:(w5.setCell ⟨p,8,O⟩ (.slice (U ⟨g3,0,O⟩) (m.nu.length+1) a0)).1.size=w5.1.size:=by simp[World.setCell]
     have b4:=(ud d).size
     have a6:=ze (Z9 (ud H5) (by omega) hc (by show(m.nu++[Nm.mk se tm val]).length<=1000000000;simp;omega) ak aP aM (fun x hx=>by
      rcases List.mem_append.1 hx with hx|hx
      ·exact V x hx
      ·rw[List.mem_singleton.1 hx];exact aw) ⟨aT,aU⟩)
     have ay:=ze aj
     have aC:=ze M
     clear aj M a2 K
     go_wp2_with fail
     refine(ud a6).mono ?_
     rintro e w6 ⟨rfl,aV,au,aK,aJ⟩
     have aE:=ze au
     clear au
     go_wp2_with fail
     go_ret
     rw[ud HF]
     refine⟨rfl,_,aV,ud aE,?_,fun k hk=>?_,fun k hk=> .inr ?_⟩
     ·have k1:zk (fun k=>k=p\/(Value.slice an m.nu.length cn).ownBlock=U k) w wr:=zk.of_below (ud d)
      have k2:=k1.trans (ud aC) (fun _ _ h=> .inr h)
      have k3:=zn (i:=8) (g:=p) (v:=.slice (U ⟨g3,0,O⟩) (m.nu.length+1) a0) k2 (.inl rfl)
      exact k3.trans aK (fun _ _ h=> .inl h)
     ·simp[Value.ownBlock]at hk
      subst hk
      rcases ud ay with h|h
      ·exact .inl h
      ·right;rw[kN]at h;omega
     ·have:=aJ k hk;omega
structure SV where
 st:Int
 cl:Cl
abbrev LV:=List (Sg×SV)
def qP:Cl:=⟨0,0,0,0⟩
def zx(L:LV):List Sg:=L.map (·.1)
def kV(L:LV)(s:Sg):Option SV:=(L.find? (fun p=>decide (p.1=s))).map (·.2)
def yi(L:LV)(s:Sg)(v:SV):LV:=if s∈zx L then L.map (fun p=>if p.1=s then(s,v)else p)else L++[(s,v)]
def stL(L:LV)(s:Sg):SV:=(kV L s).getD ⟨0,qP⟩
def yM(v:SV):Int:=if v.st=1 then v.cl.cnt else 2
def xX:List Int->Int
 |[]=>0
 |a::l=>a+xX l
def xg(L:LV):Int:=xX (L.map (fun p=>yM p.2))
def YP(k:Int)(v:SV):Int:=if v.st=k then 1 else 0
def xU(L:LV)(k:Int):Int:=xX (L.map (fun p=>YP k p.2))
theorem YC(a b:List Int):xX (a++b)=xX a+xX b:=by
 induction a with
 |nil=>simp[xX]
 |cons x l c=>simp only[List.cons_append,xX,c];omega
theorem YD{a b:List Int}(h:a.Perm b):xX a=xX b:=by
 induction h with
 |nil=>rfl
 |cons x _ e=>simp only[xX,e]
 |swap x y l=>simp only[xX];omega
 |trans _ _ c d=>exact c.trans d
theorem KN{α:Type}(f:α->Int):∀(l:List α) (u:Int),l.foldl (fun n s=>n+f s) u=u+xX (l.map f)
 |[],u=>by simp[xX]
 |a::l,u=>by rw[List.foldl_cons,KN f l (u+f a)];simp only[List.map_cons,xX];omega
theorem yC{L:LV}{s:Sg}:kV L s=O↔s∉zx L:=by
 unfold kV zx
 rw[Option.map_eq_none_iff,List.find?_eq_none]
 simp only[decide_eq_true_eq,List.mem_map]
 constructor
 ·rintro h ⟨p,a,rfl⟩;exact h p a rfl
 ·rintro h p a e;exact h ⟨p,a,e⟩
theorem jU{L:LV}{s:Sg}{v:SV}(h:kV L s=U v):(s,v)∈L:=by
 unfold kV at h
 rw[Option.map_eq_some_iff]at h
 obtain⟨p,b,rfl⟩:=h
 have a:=List.find?_some b
 have c:=List.mem_of_find?_eq_some b
 simp at a;subst a;exact c
theorem Vf{L:LV}{s:Sg}(h:s∈zx L):∃v,kV L s=U v/\(s,v)∈L:=by
 cases e:kV L s with
 |none=>exact absurd h (yC.1 e)
 |some v=>exact⟨v,rfl,jU e⟩
theorem xV{L:LV}{s:Sg}{v:SV}{k:Sg}:k∈zx (yi L s v)↔k∈zx L\/k=s:=by
 unfold yi
 by_cases h:s∈zx L
 ·rw[if_pos h]
  have:zx (L.map (fun p=>if p.1=s then(s,v)else p))=zx L:=by
   unfold zx
   rw[List.map_map]
   apply List.map_congr_left
   intro p _
   simp only[Function.comp]
   split<;>simp_all
  rw[this]
  constructor
  ·exact .inl
  ·rintro(a|rfl)<;>assumption
 ·rw[if_neg h];simp[zx]
theorem kM{L:LV}{s:Sg}{v:SV}(h:(zx L).Nodup):(zx (yi L s v)).Nodup:=by
 unfold yi
 by_cases c:s∈zx L
 ·rw[if_pos c]
  have:zx (L.map (fun p=>if p.1=s then(s,v)else p))=zx L:=by
   unfold zx
   rw[List.map_map]
   apply List.map_congr_left
   intro p _
   simp only[Function.comp]
   split<;>simp_all
  rw[this];exact h
 ·rw[if_neg c]
  unfold zx at*
  rw[List.map_append,List.nodup_append]
  refine⟨h,by simp,fun a f b d=>?_⟩
  simp at d;subst d;intro e;subst e;exact c f
theorem qm{L:LV}{s:Sg}{v:SV}{p:Sg×SV}(h:p∈yi L s v):p=(s,v)\/(p∈L/\p.1≠s):=by
 unfold yi at h
 by_cases a:s∈zx L
 ·rw[if_pos a,List.mem_map]at h
  obtain⟨q,b,rfl⟩:=h
  by_cases e:q.1=s
  ·left;simp[e]
  ·right;simp[e,b]
 ·rw[if_neg a,List.mem_append]at h
  rcases h with h|h
  ·right;exact⟨h,fun e=>a (by unfold zx;exact List.mem_map.2 ⟨p,h,e⟩)⟩
  ·left;simpa using h
theorem ZK{L:LV}{s:Sg}{v:SV}(f:SV->Int)(h:s∉zx L):xX ((yi L s v).map (fun p=>f p.2))=xX (L.map (fun p=>f p.2))+f v:=by
 unfold yi;rw[if_neg h,List.map_append,YC];simp[xX]
theorem zdh{L:LV}{s:Sg}{v:SV}(f:SV->Int):s∉zx L->(L.map (fun p=>if p.1=s then(s,v)else p)).map (fun p=>f p.2)=L.map (fun p=>f p.2):=by
 intro h
 rw[List.map_map]
 apply List.map_congr_left
 intro p a
 have:¬p.1=s:=fun e=>h (by unfold zx;exact List.mem_map.2 ⟨p,a,e⟩)
 simp[this]
theorem YE{s:Sg}{u v:SV}(f:SV->Int):∀{L:LV},(zx L).Nodup->(s,u)∈L->xX ((L.map (fun p=>if p.1=s then(s,v)else p)).map (fun p=>f p.2))=xX (L.map (fun p=>f p.2))-f u+f v
 |[],_,h=>by simp at h
 |q::L,hn,h=>by
  unfold zx at hn
  rw[List.map_cons,List.nodup_cons]at hn
  rw[List.mem_cons]at h
  rcases h with rfl|h
  ·have a:=zdh (L:=L) (s:=s) (v:=v) f hn.1
   rw[List.map_cons,List.map_cons,List.map_cons,a]
   simp only[xX,if_true];omega
  ·have b:¬q.1=s:=fun e=>hn.1 (by rw[e];exact List.mem_map.2 ⟨_,h,rfl⟩)
   have:=YE f (L:=L) (s:=s) (u:=u) (v:=v) hn.2 h
   rw[List.map_cons,List.map_cons,List.map_cons]
   simp only[b,if_false,xX]
   rw[this];omega
def zjp(c:Cf)(nu:List Nm)(s:Sg):SV:=if s.t= -1 then⟨1,xn c s nu⟩else⟨2,qP⟩
section
variable {c:Cf} {nu:List Nm} {L:LV}
end
theorem J7{c:Cf}{s:Sg}:∀(nu:List Nm) (a:Cl),(∀x∈nu,¬zI c s.t x=s)->nu.foldl (qB c s) a=a
 |[],a,_=>rfl
 |x::r,a,h=>by
  rw[List.foldl_cons,qB,if_neg (h x (by simp))]
  exact J7 r a (fun y b=>h y (by simp[b]))
theorem J6{c:Cf}{s:Sg}:∀(nu:List Nm) (a:Cl),a.cnt<=(nu.foldl (qB c s) a).cnt
 |[],a=>Int.le_refl _
 |x::r,a=>by
  rw[List.foldl_cons]
  have:=J6 (c:=c) (s:=s) r (qB c s a x)
  have b:a.cnt<=(qB c s a x).cnt:=by
   unfold qB;split
   ·simp only[jA];omega
   ·omega
  omega
theorem zbD{c:Cf}{s:Sg}:∀(nu:List Nm) (a:Cl),0<=a.cnt->(∃x∈nu,zI c s.t x=s)->1<=(nu.foldl (qB c s) a).cnt
 |[],a,_,h=>by obtain⟨x,b,_⟩:=h;simp at b
 |x::r,a,g,h=>by
  rw[List.foldl_cons]
  by_cases b:zI c s.t x=s
  ·have:=J6 (c:=c) (s:=s) r (qB c s a x)
   have f:(qB c s a x).cnt=a.cnt+1:=by simp[qB,b,jA]
   omega
  ·have f:qB c s a x=a:=by simp[qB,b]
   rw[f]
   obtain⟨y,d,e⟩:=h
   rw[List.mem_cons]at d
   rcases d with rfl|d
   ·exact absurd e b
   ·exact zbD r a g ⟨y,d,e⟩
theorem J9{c:Cf}{nu:List Nm}{s:Sg}(b: -1<=s.t)(d:s.t<c.n):(xn c s nu).cnt=0↔s∉zS c nu:=by
 constructor
 ·intro h f
  obtain⟨_,_,x,a,e⟩:=yT.1 f
  have:=zbD (c:=c) (s:=s) nu ⟨0,0,0,0⟩ (by simp) ⟨x,a,e.symm⟩
  unfold xn at h;omega
 ·intro h
  have:xn c s nu=⟨0,0,0,0⟩:=J7 nu _ (fun x a e=>h (yT.2 ⟨b,d,x,a,e.symm⟩))
  rw[this]
def qD(v:Int):Option Cl->Cl
 |none=>⟨1,v,v,v⟩
 |some o=>⟨1+o.cnt,v+o.sum,if o.mn<v then o.mn else v,if v<o.mx then o.mx else v⟩
def xq(c:Cf)(x:Nm):Sg:=zI c (-1) x
def xS(c:Cf)(L:LV)(x:Nm):LV:=yi L (xq c x) ⟨1,qD x.val ((kV L (xq c x)).map (·.cl))⟩
def qh(c:Cf)(x:Nm)(k:Nat)(L:LV):LV:=if zI c (k:Int) x∈zx L then L else yi L (zI c (k:Int) x) ⟨2,qP⟩
def vI(c:Cf)(x:Nm):Nat->LV->LV
 |0,L=>L
 |k+1,L=>qh c x k (vI c x k L)
def kJ(c:Cf)(L:LV)(x:Nm):LV:=vI c x c.n (xS c L x)
def yh(c:Cf)(L:LV)(x:Nm):Nat->Int
 |0=>0
 |k+1=>yh c L x k+(if zI c (k:Int) x∈zx L then 0 else 1)
theorem vu(c:Cf)(L:LV)(x:Nm):∀k:Nat,0<=yh c L x k/\yh c L x k<=k
 |0=>by simp[yh]
 |k+1=>by have:=vu c L x k;simp only[yh];split<;>omega
section
variable {c:Cf} {nu:List Nm} {L:LV}
theorem zlb{x:Nm}{i j:Int}(h:i≠j):zI c i x≠zI c j x:=fun e=>h (by injection e)
structure Mid(c:Cf)(nu:List Nm)(x:Nm)(k:Nat)(L:LV):Prop where
 nodup:(zx L).Nodup
 keys:∀s,s∈zx L↔s∈zS c nu\/s=xq c x\/∃j:Nat,j<k/\s=zI c (j:Int) x
 vals:∀p∈L,p.2=zjp c (nu++[x]) p.1
theorem Mid.step{x:Nm}{k:Nat}(h:Mid c nu x k L):Mid c nu x (k+1) (qh c x k L):=by
 unfold qh
 by_cases d:zI c (k:Int) x∈zx L
 ·rw[if_pos d]
  refine⟨h.nodup,fun s=>?_,h.vals⟩
  rw[h.keys]
  constructor
  ·rintro(a|a|⟨j,b,a⟩)
   ·exact .inl a
   ·exact .inr (.inl a)
   ·exact .inr (.inr ⟨j,by omega,a⟩)
  ·rintro(a|a|⟨j,b,a⟩)
   ·exact .inl a
   ·exact .inr (.inl a)
   ·by_cases e:j=k
    ·subst e;subst a;exact(h.keys _).1 d
    ·exact .inr (.inr ⟨j,by omega,a⟩)
 ·rw[if_neg d]
  refine⟨kM h.nodup,fun s=>?_,fun p f=>?_⟩
  ·rw[xV,h.keys]
   constructor
   ·rintro((a|a|⟨j,b,a⟩)|a)
    ·exact .inl a
    ·exact .inr (.inl a)
    ·exact .inr (.inr ⟨j,by omega,a⟩)
    ·exact .inr (.inr ⟨k,by omega,a⟩)
   ·rintro(a|a|⟨j,b,a⟩)
    ·exact .inl (.inl a)
    ·exact .inl (.inr (.inl a))
    ·by_cases e:j=k
     ·subst e;exact .inr a
     ·exact .inl (.inr (.inr ⟨j,by omega,a⟩))
  ·rcases qm f with rfl|⟨f,_⟩
   ·show(⟨2,qP⟩:SV)=zjp c (nu++[x]) (zI c (k:Int) x)
    unfold zjp
    rw[if_neg (show¬(zI c (k:Int) x).t= -1 by simp only[zI];omega)]
   ·exact h.vals p f
theorem Mid.to{x:Nm}(h:Mid c nu x 0 L):∀k,Mid c nu x k (vI c x k L)
 |0=>h
 |k+1=>(Mid.to h k).step
theorem Vl(x:Nm)(j:Nat)(k:Nat):zI c (j:Int) x∈zx (vI c x k (xS c L x))↔zI c (j:Int) x∈zx L\/j<k:=by
 induction k with
 |zero=>
  show _∈zx (yi _ _ _)↔_
  rw[xV]
  constructor
  ·rintro(h|h)
   ·exact .inl h
   ·exact absurd h (zlb (by omega))
  ·rintro(h|h)
   ·exact .inl h
   ·omega
 |succ k b=>
  show _∈zx (qh c x k _)↔_
  unfold qh
  by_cases a:zI c (k:Int) x∈zx (vI c x k (xS c L x))
  ·rw[if_pos a,b]
   constructor
   ·rintro(h|h)
    ·exact .inl h
    ·exact .inr (by omega)
   ·rintro(h|h)
    ·exact .inl h
    ·by_cases e:j=k
     ·subst e;exact b.1 a
     ·exact .inr (by omega)
  ·rw[if_neg a,xV,b]
   constructor
   ·rintro((h|h)|h)
    ·exact .inl h
    ·exact .inr (by omega)
    ·right
     have:(j:Int)=(k:Int):=by injection h
     omega
   ·rintro(h|h)
    ·exact .inl (.inl h)
    ·by_cases e:j=k
     ·subst e;exact .inr rfl
     ·exact .inl (.inr (by omega))
theorem zkd(x:Nm)(k:Nat):xg (vI c x k (xS c L x))=xg (xS c L x)+2*yh c L x k:=by
 induction k with
 |zero=>simp[vI,yh]
 |succ k d=>
  show xg (qh c x k _)=_
  unfold qh
  have b:=Vl (c:=c) (L:=L) x k k
  simp only[Nat.lt_irrefl,or_false]at b
  by_cases h:zI c (k:Int) x∈zx L
  ·rw[if_pos (b.2 h),d];simp[yh,h]
  ·rw[if_neg (fun a=>h (b.1 a))]
   unfold xg at d ⊢
   rw[ZK yM (fun a=>h (b.1 a)),d];simp[yh,h,yM];omega
end
theorem Tryz.infoTierR:(prog.info? 66).map (fun i=>(i.zero,i.size,i.bytes))=U (U (.agg #[I J 0,I J 0,I J 0]),3,24):=by kernel_rfl
def vd(n:Nat):Array Z:=madeCells #[I J 0,I J 0,I J 0] (n*3)
theorem Zs(n:Nat):(vd n).size=n*3:=size_madeCells _ _
theorem Jz(n:Nat)(h:n<=4)(a:Y):
  (Instr.makeSlice 25 (I J (n:Int)) (I J (n:Int))).run prog a=.ok (.slice (U ⟨a.1.size,0,O⟩) n n) (a.alloc (.cells (vd n) 66)):=by
 have c:=Tryz.infoTierR
 cases d:prog.info? 66 with
 |none=>simp[d]at c
 |some i=>
  simp only[d,Option.map_some,Option.some.injEq,Prod.mk.injEq]at c
  obtain⟨g,f,b⟩:=c
  have e:=run_make (P:=prog) a 25 66 i _ underlying25 d g .i64 .i64 (n:Int) (n:Int) (by omega) (by omega) (by rw[b];omega) (by omega)
  rw[e,f]
  rfl
theorem zgT{w:Y}{a:Option Addr}{n:Nat}{F W K:Nat->Int}(h:TS w a n F W K):0<(Xk n F W K).length->∃ad,a=U ad/\∀j v,(Xk n F W K)[j]?=U v->w.cell? (ad.add j)=U v:=by
 intro l
 rw[xl]at l
 obtain⟨b,f,rfl,_,m⟩:=h (by omega)
 refine⟨_,rfl,fun j v hv=>?_⟩
 have o:j<n*3:=by
  have:=(List.getElem?_eq_some_iff.1 hv).1;rwa[xl]at this
 rw[QD n F W K j o]at hv
 cases hv
 have d:(⟨b,f,O⟩:Addr).add j=⟨b,f+j,O⟩:=by unfold Addr.add;split<;>simp_all
 rw[d]
 obtain⟨g,i,k⟩:=m (j/3) (by omega)
 rcases(show j%3=0\/j%3=1\/j%3=2 by omega)with e|e|e
 ·have c:j=j/3*3:=by omega
  rw[c,zaC];exact g
 ·have c:j=j/3*3+1:=by omega
  rw[c,zaD];exact i
 ·have c:j=j/3*3+2:=by omega
  rw[c,zaE];exact k
theorem VE(c:Cf)(m:c.ok)(a:Option Addr)(cap:Nat)(ep:Int)(w:Y)(h:TS w a c.n c.F c.W c.K):
  Calls prog 52 #[.agg #[I J c.s,I J c.le,I J c.la,I J c.wi,I J c.ke,I J c.qu,.slice a c.n cap],I J ep] w fun e w'=>∃p tv,e=.returned (.pointer (U ⟨p,0,O⟩))/\zJ w.1.size w' p ⟨c,0,[],[],[],[],ep,0⟩ tv (.slice O 0 0) (.slice O 0 0) (.slice O 0 0) (.slice O 0 0)/\N w.1.size w w':=by
 have k:=Jz c.n m.n4
 go_enter func52,ntmps52
 go_wp2_with fail
 obtain⟨r,l,t,b,u⟩:=box3 w (.cells #[I J c.s,I J c.le,I J c.la,I J c.wi,I J c.ke,I J c.qu,.slice a c.n cap] 27) (.cells #[I J c.s,I J c.le,I J c.la,I J c.wi,I J c.ke,I J c.qu,.slice (U ⟨w.1.size+1+1,0,O⟩) c.n c.n,I J 0,.slice O 0 0,.slice O 0 0,.slice O 0 0,.slice O 0 0,I J ep,I J 0] 190) (.cells (vd c.n) 66)
 generalize(((w.alloc (.cells #[I J c.s,I J c.le,I J c.la,I J c.wi,I J c.ke,I J c.qu,.slice a c.n cap] 27)).alloc (.cells #[I J c.s,I J c.le,I J c.la,I J c.wi,I J c.ke,I J c.qu,.slice (U ⟨w.1.size+1+1,0,O⟩) c.n c.n,I J 0,.slice O 0 0,.slice O 0 0,.slice O 0 0,.slice O 0 0,I J ep,I J 0] 190)).alloc (.cells (vd c.n) 66))=X at*
 have f:=h.below b
 obtain⟨i,x,HR,d⟩:∃i,(Builtin.copy_ #[25,25] 3 #[.slice (U ⟨w.1.size+1+1,0,O⟩) c.n c.n,.slice a c.n cap]).run prog X.drew=.ok (I J c.n) i/\
   Hid (i.1[w.1.size+1+1]?=U (.cells (Xk c.n c.F c.W c.K).toArray 66 (0,0)))/\Hid (N (w.1.size+2) X i):=by
  have o:X.drew.1[w.1.size+1+1]?=U (.cells (vd c.n) 66 (0,0)):=t
  have g:TS X.drew a c.n c.F c.W c.K:=f
  have q:=Xl (P:=prog) X.drew 25 25 3 66 3 (w.1.size+1+1) c.n c.n a c.n cap (vd c.n) 66 (Xk c.n c.F c.W c.K) underlying25 (by kernel_rfl) o
   (by rw[xl];simp) (zgT g) (by rw[xl,Zs];omega) (VG c.n c.F c.W c.K)
  have A:Nat.min c.n c.n=c.n:=by simp
  have y:(Xk c.n c.F c.W c.K++(vd c.n).toList.drop (Xk c.n c.F c.W c.K).length).toArray=(Xk c.n c.F c.W c.K).toArray:=by
   rw[List.drop_eq_nil_of_le (by rw[xl];simp[Zs]),List.append_nil]
  rw[A,y]at q
  exact⟨_,q,setRow_heap _ _ _ _ _ _ o,below_setRow ((S _ _).drew) (D _) _⟩
 obtain⟨-,-,-,-,-,-,C,-⟩:=zc l
 obtain⟨-,-,-,-,-,-,E,-⟩:=zc r
 have v:=ze l
 have B:=ze u
 have j:=ze b
 clear r l t u b f k h
 go_region
 go_wp2_with fail
 go_ret
 have z:=((ud d).block (w.1.size+1) (by omega)).trans (ud v)
 refine⟨_,_,rfl,⟨z,by omega,⟨xl _ _ _ _,.inr ⟨_,_,_,rfl,by omega,ud HR,?_⟩⟩,World.ownsRow_nil _ _ _ _,World.ownsRow_nil _ _ _ _,World.ownsRow_nil _ _ _ _,World.ownsRow_nil _ _ _ _⟩,(ud j).trans ((ud d).mono (by omega))⟩
 refine⟨D _,by have:=m.n4;simp only[maxLen];omega,by simp[xl],?_⟩
 show List.take (c.n*3) (Xk c.n c.F c.W c.K)=Xk c.n c.F c.W c.K
 exact List.take_of_length_le (by rw[xl];omega)
end Go.Proofs.YtpbimdkclnekeaaGreat
namespace Go.Proofs.YtpbimdkclnekeaaGreat
open Go.RowKit Go.Maps
open Go.ChangeMaps (setBlock modify_eq_set)
def vs(v:SV):Z:=.agg #[I J v.st,I J v.cl.cnt,I J v.cl.sum,I i32 v.cl.mn,I i32 v.cl.mx]
def yS(n:Int):Prop:= -9223372036854775808<=n/\n<=9223372036854775807
def Sg.wf(s:Sg):Prop:=yS s.t/\yS s.se/\yS s.we
theorem Tryz.laidOut:laidOutB prog=true:=by kernel_rfl
theorem zkN:(137:TypeId)<prog.types.size:=of_decide_eq_true (by kernel_rfl)
theorem Xf:Keyed prog 137:=Keyed.of_law (deep_law_laid Tryz.laidOut (m:=2) (Nat.le_of_ble_eq_true rfl) zkN (by kernel_rfl) (by kernel_rfl))
theorem zhI:∃m,prog.types.size=m+1:=by
 have h:0<prog.types.size:=of_decide_eq_true (by kernel_rfl)
 exact⟨prog.types.size-1,by omega⟩
theorem Yf:prog.cellsOf 137=3:=by kernel_rfl
theorem Yd:prog.cellsOf 3=1:=by kernel_rfl
theorem zhJ:prog.keyType 137=true:=by kernel_rfl
theorem zcp{s k:Sg}(h:vj s=vj k):s=k:=by
 unfold vj at h
 injection h with h
 injection h with h
 injection h with a h
 injection h with b h
 injection h with c h
 injection a with _ a
 injection b with _ b
 injection c with _ c
 cases s;cases k;simp at*;exact⟨a,b,c⟩
theorem ziy{n:Int}(h:yS n):(Lit.int .i64 n).wf=true:=WalkArith.wf_i64 (by unfold yS at h;omega)
theorem zaa{s:Sg}(h:s.wf):∃i,keyOf prog 137 (vj s)=U i:=by
 obtain⟨m,g⟩:=zhI
 obtain⟨c,d,e⟩:=h
 have f:(vj s).formed prog 137=true:=by
  simp[Value.formed,vj,underlying137,Yf]
 unfold keyOf
 simp only[underlying137,zhJ,f,Bool.and_self,if_true]
 have:∃b,prog.keyLits (prog.types.size+1) 137 (vj s).cells.toList=U b:=by
  rw[g]
  simp[Program.keyLits,underlying137,underlying3,vj,Value.cells,Yf,Yd,ziy c,ziy d,ziy e]
 obtain⟨b,a⟩:=this
 exact⟨_,by rw[a];rfl⟩
structure zkn(es:Array MapEntry)(clock:Nat)(L:LV):Prop where
 kv:es.toList.map (fun e=>(e.key,e.val))=L.map (fun p=>(vj p.1,vs p.2))
 born:∀e∈es.toList,e.born<clock
 once:(es.toList.map (·.born)).Nodup
 wf:∀p∈L,p.1.wf
 nodup:(zx L).Nodup
 size:es.size<=maxLen
def yj(w:Y)(b:Nat)(L:LV):Prop:=∃c a,w.1[b]?=U (.map c a)/\zkn c a L
theorem yj.lt{w:Y}{b:Nat}{L:LV}(h:yj w b L):b<w.1.size:=by
 obtain⟨d,a,c,_⟩:=h;exact zd c
theorem yj.kept{f:Nat->Prop}{w w':Y}{b:Nat}{L:LV}(h:yj w b L)(g:zk f w w')(hn:¬f b):yj w' b L:=by
 obtain⟨c,a,d,e⟩:=h;exact⟨c,a,g.heap d hn,e⟩
theorem yj.later{w w':Y}{b:Nat}{L:LV}(h:yj w b L)(a:N w.1.size w w'):yj w' b L:=
 h.kept (f:=fun _=>False) (zk.of_below a) (fun h=>h)
theorem yj.wf{w:Y}{b:Nat}{L:LV}(h:yj w b L):∀p∈L,p.1.wf:=by obtain⟨d,a,e,c⟩:=h;exact c.wf
theorem yj.made(w:Y):yj (w.alloc (.map #[] 0)) w.1.size []:=⟨#[],0,zo _ _,⟨rfl,by simp,by simp,by simp,by simp[zx],by simp⟩⟩
theorem zkn.keys{c:Array MapEntry}{a:Nat}{L:LV}(h:zkn c a L):∀e∈c.toList,∃l,keyOf prog 137 e.key=U l:=fun e d=>by
 have f:(e.key,e.val)∈L.map (fun p=>(vj p.1,vs p.2)):=h.kv▸List.mem_map.2 ⟨e,d,rfl⟩
 obtain⟨p,g,b⟩:=List.mem_map.1 f
 injection b with b i
 rw[<-b];exact zaa (h.wf p g)
theorem zkn.at{c:Array MapEntry}{a:Nat}{L:LV}(h:zkn c a L){j:Nat}{e:MapEntry}(f:c.toList[j]?=U e):∃p,L[j]?=U p/\e.key=vj p.1/\e.val=vs p.2:=by
 have b:(c.toList.map (fun e=>(e.key,e.val)))[j]?=U (e.key,e.val):=by simp[f]
 rw[h.kv,List.getElem?_map]at b
 cases d:L[j]? with
 |none=>simp[d]at b
 |some p=>
  rw[d]at b
  simp at b
  exact⟨p,rfl,b.1.symm,b.2.symm⟩
theorem zfk{L:LV}{s:Sg}{j:Nat}{p:Sg×SV}(a:L[j]?=U p)(e:p.1=s):s∈zx L:=by
 unfold zx;exact List.mem_map.2 ⟨p,List.mem_of_getElem? a,e⟩
theorem zjn{L:LV}(hn:(zx L).Nodup){j:Nat}{p:Sg×SV}(m:L[j]?=U p):kV L p.1=U p.2:=by
 obtain⟨v,hv,n⟩:=Vf (zfk m rfl)
 rw[hv]
 have k:=List.mem_of_getElem? m
 have:(p.1,v)=p:=by
  have f:L.Pairwise (fun a b=>a.1≠b.1):=by unfold zx at hn;exact List.pairwise_map.1 hn
  by_cases e:(p.1,v)=p
  ·exact e
  ·obtain⟨i,l,g⟩:=List.getElem_of_mem n
   obtain⟨i2,d,c⟩:=List.getElem_of_mem k
   rcases Nat.lt_trichotomy i i2 with h|h|h
   ·have:=List.pairwise_iff_getElem.1 f i i2 l d h;rw[g,c]at this;exact absurd rfl this
   ·subst h;rw[g]at c;exact c
   ·have:=List.pairwise_iff_getElem.1 f i2 i d l h;rw[g,c]at this;exact absurd rfl this
 rw[<-this]
def zaU(c:Bool)(z:Z)(L:LV)(s:Sg):Z:=match kV L s with
 |none=>if c then .tuple #[z,.bool false]else z
 |some v=>if c then .tuple #[vs v,.bool true]else vs v
theorem zcl(c:Bool){w:Y}{b:Nat}{L:LV}(h:yj w b L){s:Sg}(y:s.wf):
  (Instr.lookup 135 (.map (U b)) (vj s) c).run prog w=.ok (zaU c (vs ⟨0,qP⟩) L s) w:=by
 obtain⟨o,f,q,d⟩:=h
 obtain⟨E,a⟩:=zaa y
 have A:(zeroValue 131).run prog w=.ok (vs ⟨0,qP⟩) w:=by kernel_rfl
 rcases Xf.find w a o.toList d.keys with⟨g,i⟩|⟨j,B,g,i,t⟩
 ·have k:kV L s=O:=yC.2 (fun v=>by
   obtain⟨p,m,e⟩:=List.mem_map.1 (show s∈L.map (·.1)from v)
   have l:(vj p.1,vs p.2)∈o.toList.map (fun e=>(e.key,e.val)):=d.kv▸List.mem_map.2 ⟨p,m,rfl⟩
   obtain⟨x,z,ex⟩:=List.mem_map.1 l
   injection ex with r C
   exact i x z (by rw[r,e]))
  simp[Instr.lookup,run_underlying underlying135,MapKept.run_getObj_map q,Xf.check w _ a,g,A,Result.andThen,zaU,k]
 ·obtain⟨p,m,u,hv⟩:=d.at i
  have n:p.1=s:=zcp (u.symm.trans t)
  have k:kV L s=U p.2:=by rw[<-n];exact zjn d.nodup m
  simp[Instr.lookup,run_underlying underlying135,MapKept.run_getObj_map q,Xf.check w _ a,g,Result.andThen,zaU,k,hv]
theorem zjT{b:Array MapEntry}{a:Nat}{L:LV}(h:zkn b a L):b.size=L.length:=by
 have:=congrArg List.length h.kv;simpa using this
theorem JX{w:Y}{b:Nat}{L:LV}(h:yj w b L)(T:L.length<maxLen){s:Sg}(V:s.wf)(v:SV):
  ∃o,(Instr.mapUpdate 135 (.map (U b)) (vj s) (vs v)).run prog w=.ok () (setBlock w b o)/\yj (setBlock w b o) b (yi L s v)/\zk (fun k=>k=b) w (setBlock w b o)/\o.isCells=false:=by
 have M:=h.lt
 have kp:∀o,zk (fun k=>k=b) w (setBlock w b o):=fun o=>⟨rfl,rfl,rfl,by simp[setBlock],fun k hk z=>by
  simp only[setBlock];rw[Array.getElem?_setIfInBounds_ne (fun e=>z e.symm)]⟩
 have B:∀o,(setBlock w b o).1[b]?=U o:=fun o=>by simp[setBlock,M]
 obtain⟨r,g,G,d⟩:=h
 obtain⟨kl,t⟩:=zaa V
 rcases Xf.find w t r.toList d.keys with⟨K,y⟩|⟨j,A,K,y,h3⟩
 ·have hg:s∉zx L:=(fun hm=>by
   obtain⟨p,f,e⟩:=List.mem_map.1 (show s∈L.map (·.1)from hm)
   have Q:(vj p.1,vs p.2)∈r.toList.map (fun e=>(e.key,e.val)):=d.kv▸List.mem_map.2 ⟨p,f,rfl⟩
   obtain⟨x,n,ex⟩:=List.mem_map.1 Q
   injection ex with e1 e2
   exact y x n (by rw[e1,e]))
  refine⟨.map (r.push ⟨vj s,vs v,g⟩) (g+1),?_,⟨_,_,B _,?_⟩,kp _,rfl⟩
  ·simp[Instr.mapUpdate,run_underlying underlying135,MapKept.run_getObj_map G,Xf.check w false t,K,MapKept.run_setObj_map _ G,Result.andThen,setBlock]
  ·have f:yi L s v=L++[(s,v)]:=by unfold yi;rw[if_neg hg]
   refine⟨by rw[f];simp[d.kv],?_,?_,?_,kM d.nodup,by have:=zjT d;simp;omega⟩
   ·intro x n
    simp at n
    rcases n with n|rfl
    ·have:=d.born x (by simpa using n);omega
    ·simp
   ·rw[Array.toList_push,List.map_append,List.nodup_append]
    refine⟨d.once,by simp,fun a ha c hc=>?_⟩
    simp at hc;subst hc
    obtain⟨x,n,rfl⟩:=List.mem_map.1 ha
    have:=d.born x n;omega
   ·rw[f];intro p f
    rcases List.mem_append.1 f with f|f
    ·exact d.wf p f
    ·simp at f;subst f;exact V
 ·obtain⟨p,f,hk,hv⟩:=d.at y
  have u:p.1=s:=zcp (hk.symm.trans h3)
  have hj:r[j]?=U A:=by simpa using y
  have P:s∈zx L:=zfk f u
  have l:(r.modify j (fun H=>{H with key:=vj s,val:=vs v})).toList=r.toList.set j {A with key:=vj s,val:=vs v}:=by rw[Array.toList_modify,modify_eq_set _ _ _ _ y]
  refine⟨.map (r.modify j (fun H=>{H with key:=vj s,val:=vs v})) g,?_,⟨_,_,B _,?_⟩,kp _,rfl⟩
  ·simp[Instr.mapUpdate,run_underlying underlying135,MapKept.run_getObj_map G,Xf.check w false t,K,hj,h3,Xf.stays w t,MapKept.run_setObj_map _ G,Result.andThen,setBlock]
  ·have E:yi L s v=L.set j (s,v):=by
    unfold yi;rw[if_pos P]
    apply List.ext_getElem?
    intro i
    rw[List.getElem?_map,List.getElem?_set]
    by_cases e:j=i
    ·subst e
     have m:j<L.length:=(List.getElem?_eq_some_iff.1 f).1
     rw[f];simp only[Option.map_some,u,if_true,m]
    ·rw[if_neg e]
     cases hi:L[i]? with
     |none=>simp
     |some q=>
      have z:q.1≠s:=fun eq=>by
       have F:L.Pairwise (fun a b=>a.1≠b.1):=List.pairwise_map.1 d.nodup
       obtain⟨C,W⟩:=List.getElem?_eq_some_iff.1 hi
       obtain⟨m,X⟩:=List.getElem?_eq_some_iff.1 f
       rcases Nat.lt_or_gt_of_ne e with h|h
       ·have:=List.pairwise_iff_getElem.1 F j i m C h;rw[W,X]at this;exact this (u.trans eq.symm)
       ·have:=List.pairwise_iff_getElem.1 F i j C m h;rw[W,X]at this;exact this (eq.trans u.symm)
      simp[z]
   refine⟨?_,?_,?_,?_,kM d.nodup,by simpa using d.size⟩
   ·rw[l,E,List.map_set,List.map_set,d.kv]
   ·intro x n
    rw[l]at n
    rcases List.mem_or_eq_of_mem_set n with n|rfl
    ·exact d.born x n
    ·exact d.born A (List.mem_of_getElem? y)
   ·rw[l,List.map_set]
    have:(r.toList.map (·.born)).set j A.born=r.toList.map (·.born):=by
     apply List.ext_getElem?
     intro i
     rw[List.getElem?_set]
     by_cases e:j=i
     ·subst e
      have m:j<r.toList.length:=(List.getElem?_eq_some_iff.1 y).1
      simp only[List.length_map,m,if_true,List.getElem?_map,y,Option.map_some]
     ·rw[if_neg e]
    show((r.toList.map (·.born)).set j A.born).Nodup
    rw[this];exact d.once
   ·intro q R
    rcases qm R with rfl|⟨R,_⟩
    ·exact V
    ·exact d.wf q R
end Go.Proofs.YtpbimdkclnekeaaGreat
