import Derived.Test.YtndhpgciopcncaaGreatDoorYWkv
import Derived.Test.YtndhpgciopcncaaGreatDoorYJn2
import Derived.Lib.AppendIntMem
import Derived.Lib.ItoaLen
import Derived.Lib.Slices
import Derived.Lib.Hide
import Derived.Laws.IdiomStrings
import Derived.OwnWalk
import Derived.WalkKit
import Derived.BigCall
import Derived.Maps.OwnIn
import Derived.OwnWalkIn
import Derived.Sort.Statements
import Derived.Deep.RegionHeld3
import Derived.Shelf.SlSortCmp.WholeK
import Derived.Shelf.SlSortCmp.NoneTotal
open Go.Value renaming int → I
open Go.IntKind renaming i64 → J
open Option renaming none → O
open Option renaming some → E
open Go renaming World → U
open Nat renaming le_refl → G
open Go renaming Value → T
open Go.IntKind renaming i32 → H
open Go.RowKit renaming Below → z0
open Go.RowKit.Below renaming refl → z1
open Nat renaming lt_of_lt_of_le → z9
open Nat renaming zero_le → za
open List renaming mem_cons → zf
set_option linter.unusedVariables false
set_option maxRecDepth 100000
set_option maxHeartbeats 8000000
open Go.Proofs.Tryz
namespace Go.Proofs.YtndhpgciopcncaaGreatDoor
open Go.ChangeMaps (setBlock)
open Go.RowKit Go.Maps Go.Shelf
theorem TS.keptb{w w':U}{g c n:Nat}{F W K:Nat->Int}{f:Nat->Prop}(h:TS w (E ⟨g,c,O⟩) n F W K)(d:zk f w w')(hn:¬f g):TS w' (E ⟨g,c,O⟩) n F W K:=fun k=>by
 obtain⟨b,j,e,a,l⟩:=h k
 cases e
 refine⟨g,c,rfl,z9 a d.size,fun i m=>?_⟩
 rw[zF d hn a,zF d hn a,zF d hn a]
 exact l i m
def JK(w:U)(g N:Nat):Prop:=∃cs t,w.1[g]?=E (.cells cs t (0,0))/\cs.size=N
theorem JK.set{w:U}{g N:Nat}(h:JK w g N)(i:Nat)(v:T):JK (w.setCell ⟨g,i,O⟩ v) g N:=by
 obtain⟨cs,t,a,b⟩:=h
 exact⟨_,t,xi a v,by simpa using b⟩
theorem JK.kept{w w':U}{g N:Nat}{f:Nat->Prop}(h:JK w g N)(b:zk f w w')(hn:¬f g):JK w' g N:=by
 obtain⟨cs,t,a,c⟩:=h
 exact⟨cs,t,(b.block g (zb a) hn).trans a,c⟩
theorem JK.cell{w:U}{g N:Nat}(h:JK w g N)(i:Nat)(b:i<N):∃v,w.cell? ⟨g,i,O⟩=E v:=by
 obtain⟨cs,t,a,c⟩:=h
 rw[Zq a]
 exact⟨_,Array.getElem?_eq_getElem (by omega)⟩
theorem JK.free{w:U}{g N:Nat}(h:JK w g N)(i:Nat):w.frozen? ⟨g,i,O⟩=false:=by
 obtain⟨cs,t,a,b⟩:=h
 exact vr a i
theorem JK.lt{w:U}{g N:Nat}(h:JK w g N):g<w.1.size:=by
 obtain⟨cs,t,a,b⟩:=h
 exact zb a
theorem CF.kept{w w':U}{g:Nat}{s e d j ke i:Int}{a:Option Addr}{n cap:Nat}{f:Nat->Prop}(h:CF w g s e d j ke i a n cap)(b:zk f w w')(hn:¬f g):CF w' g s e d j ke i a n cap:=by
 obtain⟨c,k,l,m,o,p,q,r⟩:=h
 exact⟨z9 c b.size,(zF b hn c).trans k,(zF b hn c).trans l,(zF b hn c).trans m,(zF b hn c).trans o,(zF b hn c).trans p,(zF b hn c).trans q,(zF b hn c).trans r⟩
theorem VY(s S Q Z ke V:Int)(a:Option Addr)(n cap:Nat)(F W K:Nat->Int)(aV:24*(n+1)<=281474976710656)(w:U)(p:Nat)(f:Nat->Prop)(hf:∀k,f k->k<w.1.size)(N:∀w',zk f w w'->TS w' a n F W K)
  (R:Option Addr->Int->U->Prop) (hR:∀xo m A B,zk (fun k=>k=w.1.size+1) A B->R xo m A->R xo m B)
  (HO:∀w4,z0 w.1.size w w4->w.1.size+3=w4.1.size->(∀w',zk f w4 w'->TS w' (E ⟨w.1.size+1,0,O⟩) n F W K)->Calls prog 29 #[.agg #[I J s,I J S,I J Q,I J Z,I J ke,I J V,.slice (E ⟨w.1.size+1,0,O⟩) n (n+1)],.pointer (E ⟨p,0,O⟩)] w4 fun e w5=>∃xo m,e=.returned (.tuple #[.pointer xo,I J m])/\zk f w4 w5/\R xo m w5):
  Calls prog 74 #[.agg #[I J s,I J S,I J Q,I J Z,I J ke,I J V,.slice a n cap],.pointer (E ⟨p,0,O⟩)] w fun e w'=>∃xo m,e=.returned (.tuple #[.pointer xo,I J m,.bool true])/\zk f w w'/\R xo m w':=by
 have h:=N w (zk.refl _ _)
 have aS:=zcA n aV
 have b7:(n:Int)<(n:Int)+1:=by omega
 have aa:TS ((w.alloc (.cells #[I J s,I J S,I J Q,I J Z,I J ke,I J V,.slice a n cap] 27)).alloc (.cells (yx n) 80)) a n F W K:=
  h.below (((z1 _ _).alloc (G _) _).alloc (by simp) _)
 obtain⟨c,aM,HR,a8,HZ⟩:∃c,(Builtin.copy_ #[25,25] 3 #[.slice (E ⟨w.1.size+1,0,O⟩) (n+1) (n+1),.slice a n cap]).run prog ((w.alloc (.cells #[I J s,I J S,I J Q,I J Z,I J ke,I J V,.slice a n cap] 27)).alloc (.cells (yx n) 80))=.ok (I J n) c/\
   Hid (c.1[w.1.size+1]?=E (.cells (ZM n F W K++(yx n).toList.drop (n*3)).toArray 80 (0,0)))/\z0 (w.1.size+1) ((w.alloc (.cells #[I J s,I J S,I J Q,I J Z,I J ke,I J V,.slice a n cap] 27)).alloc (.cells (yx n) 80)) c/\c.1.size=w.1.size+2:=by
  generalize hW:(w.alloc (.cells #[I J s,I J S,I J Q,I J Z,I J ke,I J V,.slice a n cap] 27))=X at aa
  have al:X.1.size=w.1.size+1:=by rw[<-hW];simp
  have hg:(X.alloc (.cells (yx n) 80)).1[w.1.size+1]?=E (.cells (yx n) 80 (0,0)):=by rw[<-al];exact heap_alloc_last _ _
  have hr:=ZN (P:=prog) (X.alloc (.cells (yx n) 80)) 25 25 3 80 3 (w.1.size+1) (n+1) (n+1) a n cap (yx n) 80 (ZM n F W K) underlying25 (by kernel_rfl) hg
   (by rw[zW];simp) aa.cells (by rw[zW,vA];omega) (Vc n F W K)
  have hm:Nat.min n (n+1)=n:=by simp
  rw[hm,zW]at hr
  refine⟨_,hr,setRow_heap _ _ _ _ _ _ hg,below_setRow (z1 _ _) (G _) _,?_⟩
  simp[World.setRow,al]
 have HS:Hid (c.1.size=w.1.size+2):=HZ
 clear HZ
 have hx:∀j,j<3->∃v,c.cell? ⟨w.1.size+1,n*3+j,O⟩=E v:=fun j hj=>by
  rw[Zq HR.out]
  exact⟨_,Array.getElem?_eq_getElem (by simp[zW,vA];omega)⟩
 obtain⟨v0,x0⟩:=hx 0 (by omega)
 obtain⟨v1,x1⟩:=hx 1 (by omega)
 obtain⟨v2,x2⟩:=hx 2 (by omega)
 have x0:c.cell? ⟨w.1.size+1,n*3,O⟩=E v0:=x0
 clear hx
 have an:∀o,c.frozen? ⟨w.1.size+1,o,O⟩=false:=fun o=>vr HR.out o
 obtain⟨_,c0,c1,c2,c3,c4,c5,c6⟩:=((CF.made w 27 (0,0) s S Q Z ke V a n cap).below (((z1 (w.1.size+1) _).alloc (by simp) _)) (by omega)).below a8 (by omega)
 have ar:TS c (E ⟨w.1.size+1,0,O⟩) n F W K:=TS.of_row HR.out
 have aX:w.1.size+1<c.1.size:=by have:=HS.out;omega
 have a4:z0 w.1.size w c:=(((z1 _ _).alloc (G _) _).alloc (by simp) _).trans (a8.mono (by omega))
 have hm:∀(C:Array T) (t:TypeId),TS ((((c.setCell ⟨w.1.size+1,n*3,O⟩ (I J (-77))).setCell ⟨w.1.size+1,n*3+1,O⟩ (I J 0)).setCell ⟨w.1.size+1,n*3+2,O⟩ (I J 0)).alloc (.cells C t)) (E ⟨w.1.size+1,0,O⟩) n F W K/\
   ((((c.setCell ⟨w.1.size+1,n*3,O⟩ (I J (-77))).setCell ⟨w.1.size+1,n*3+1,O⟩ (I J 0)).setCell ⟨w.1.size+1,n*3+2,O⟩ (I J 0)).alloc (.cells C t)).cell? ⟨w.1.size+1,n*3,O⟩=E (I J (-77))/\
   z0 (w.1.size+1) c ((((c.setCell ⟨w.1.size+1,n*3,O⟩ (I J (-77))).setCell ⟨w.1.size+1,n*3+1,O⟩ (I J 0)).setCell ⟨w.1.size+1,n*3+2,O⟩ (I J 0)).alloc (.cells C t))/\
   ((((c.setCell ⟨w.1.size+1,n*3,O⟩ (I J (-77))).setCell ⟨w.1.size+1,n*3+1,O⟩ (I J 0)).setCell ⟨w.1.size+1,n*3+2,O⟩ (I J 0)).alloc (.cells C t)).1.size=c.1.size+1:=by
  intro C t
  have hs:(((c.setCell ⟨w.1.size+1,n*3,O⟩ (I J (-77))).setCell ⟨w.1.size+1,n*3+1,O⟩ (I J 0)).setCell ⟨w.1.size+1,n*3+2,O⟩ (I J 0)).1.size=c.1.size:=by simp[World.setCell]
  have hB:z0 (w.1.size+1) c (((c.setCell ⟨w.1.size+1,n*3,O⟩ (I J (-77))).setCell ⟨w.1.size+1,n*3+1,O⟩ (I J 0)).setCell ⟨w.1.size+1,n*3+2,O⟩ (I J 0)):=
   (((z1 (w.1.size+1) c).setCell (p:=⟨w.1.size+1,n*3,O⟩) (G (w.1.size+1)) (I J (-77))).setCell (p:=⟨w.1.size+1,n*3+1,O⟩) (G (w.1.size+1)) (I J 0)).setCell (p:=⟨w.1.size+1,n*3+2,O⟩) (G (w.1.size+1)) (I J 0)
  have hx:(((c.setCell ⟨w.1.size+1,n*3,O⟩ (I J (-77))).setCell ⟨w.1.size+1,n*3+1,O⟩ (I J 0)).setCell ⟨w.1.size+1,n*3+2,O⟩ (I J 0)).cell? ⟨w.1.size+1,n*3,O⟩=E (I J (-77)):=by
   rw[World.cell?_setCell_other _ _ _ _ (by simp),World.cell?_setCell_other _ _ _ _ (by simp)]
   exact World.cell?_setCell_same _ _ _ x0
  have ht:=((ar.setCell (n*3) (I J (-77)) (by omega)).setCell (n*3+1) (I J 0) (by omega)).setCell (n*3+2) (I J 0) (by omega)
  generalize(((c.setCell ⟨w.1.size+1,n*3,O⟩ (I J (-77))).setCell ⟨w.1.size+1,n*3+1,O⟩ (I J 0)).setCell ⟨w.1.size+1,n*3+2,O⟩ (I J 0))=Y at hs hB hx ht ⊢
  have hA:z0 Y.1.size Y (Y.alloc (.cells C t)):=(z1 _ _).alloc (G _) _
  exact⟨ht.below hA,(hA.cell (p:=⟨w.1.size+1,n*3,O⟩) (show w.1.size+1<_ by rw[hs];omega)).trans hx,hB.trans (hA.mono (by omega)),by simp[hs]⟩
 have a1:¬f (w.1.size+1):=fun e=>by have:=hf _ e;omega
 have aN:¬f w.1.size:=fun e=>by have:=hf _ e;omega
 obtain⟨a9,aw,a0,M⟩:=hm #[I J s,I J S,I J Q,I J Z,I J ke,I J V,.slice (E ⟨w.1.size+1,0,O⟩) n (n+1)] 27
 have q:=a4.trans (a0.mono (by omega))
 have ae:=zd (HO _ q (by rw[M,HS.out]) (fun w' hk=>a9.keptb hk a1))
 have a5:JK c (w.1.size+1) ((n+1)*3):=⟨_,_,HR.out,by simp[zW,vA];omega⟩
 have a6:JK ((((c.setCell ⟨w.1.size+1,n*3,O⟩ (I J (-77))).setCell ⟨w.1.size+1,n*3+1,O⟩ (I J 0)).setCell ⟨w.1.size+1,n*3+2,O⟩ (I J 0)).alloc (.cells #[I J s,I J S,I J Q,I J Z,I J ke,I J V,.slice (E ⟨w.1.size+1,0,O⟩) n (n+1)] 27)) (w.1.size+1) ((n+1)*3):=(((a5.set (n*3) (I J (-77))).set (n*3+1) (I J 0)).set (n*3+2) (I J 0)).kept (f:=fun _=>False) (zk.of_below ((z1 _ _).alloc (G _) _)) (fun h=>h)
 have af:=zd a6
 have ac:=zd ((show CF c w.1.size s S Q Z ke V a n cap from⟨by omega,c0,c1,c2,c3,c4,c5,c6⟩).below a0 (by omega))
 clear a5 a6
 have ai:=zd a9
 have aj:=zd aw
 have ax:=zd a0
 have a2:=zd q
 have ah:=zd M
 clear hm a9 aw a0 M q HO
 have HH:=zd h
 go_enter func74,ntmps74
 go_wp2_with fail
 generalize((((c.setCell ⟨w.1.size+1,n*3,O⟩ (I J (-77))).setCell ⟨w.1.size+1,n*3+1,O⟩ (I J 0)).setCell ⟨w.1.size+1,n*3+2,O⟩ (I J 0)).alloc (.cells #[I J s,I J S,I J Q,I J Z,I J ke,I J V,.slice (E ⟨w.1.size+1,0,O⟩) n (n+1)] 27))=W4 at*
 refine(ud ae).mono ?_
 rintro e w5 ⟨xo,m,rfl,g,aq⟩
 have M:W4.1.size=c.1.size+1:=ud ah
 have aU:c.1.size=w.1.size+2:=HS.out
 have aY:=(zF g a1 (show w.1.size+1<W4.1.size by omega)).trans (ud aj)
 have au:=(ud ai).keptb g a1
 have D:zk f w w5:=(zk.of_below (f:=f) (ud a2)).trans g (fun _ _ h=>h)
 have av:=N w5 D
 have L:=(ud af).kept g a1
 have r:=(ud ac).kept g aN
 obtain⟨ab,aC,aD,aE,aF,aG,aH,aI⟩:=id r
 have az:=zd D
 have a3:=zd L
 have l:=zd r
 have aA:=zd aq
 have b3:w.1.size+1<w5.1.size:=L.lt
 clear af ac ai aj ax a2 ah D L r aq aM aS x0 x1 x2 an ar a4 aa HR HS a8 aX ae aU M g N c0 c1 c2 c3 c4 c5 c6
 go_wp2_with fail
 go_loopw [12,13] (fun x y wr=>∃(k:Nat),k<=n/\x=.bool true/\y=I J k/\z0 w5.1.size w5 wr) (fun _ y _=>n-(intOf y).toNat)
 case atStart=>exact⟨0,za _,rfl,rfl,z1 _ _⟩
 case round=>
  obtain⟨k,hk,rfl,rfl,hb⟩:=hrel
  obtain⟨_,c0,c1,c2,c3,c4,c5,c6⟩:=(ud l).below hb ab
  have b9:w.1.size<wr.1.size:=z9 ab hb.size
  by_cases ap:k<n
  ·have aW:=au.below hb
   have aK:=av.below hb
   obtain⟨b0,b2,e0,ba,am⟩:=aW (by omega)
   cases e0
   obtain⟨b,bb,rfl,b5,hc⟩:=aK (by omega)
   obtain⟨g1,g2,g3⟩:=am k ap
   simp only[Nat.zero_add]at g1 g2 g3
   obtain⟨h1,h2,h3⟩:=hc k ap
   have aQ:(k:Int)<n:=by omega
   have b1:(k:Int)<(n:Int)+1:=by omega
   clear hc am
   have aT:Nonempty (zj wr.1.size wr):=zj.some _ _
   have aR:=fun(u:zj wr.1.size wr) b o h=>u.cell b o h
   go_wp2_with fail
   refine ze wr.1.size (by kernel_rfl) (by kernel_rfl) ?_
   repeat(go_big_quiet_step (fail))
   refine wpQuiet_nil ?_
   rintro⟨w1,aL⟩
   clear aR aT
   dsimp only
   go_wp2_with fail
   go_roundw
   case rel=>exact⟨k+1,by omega,rfl,by go_num,hb.trans (aL.mono hb.size)⟩
   case measure=>simp[intOf];omega
  ·have ay:=zd hb
   have ag:=zd ((ud a3).kept (zk.of_below (f:=fun _=>False) hb) (fun h=>h))
   have ad:=zd ((ud l).below hb ab)
   have aQ:¬(k:Int)<n:=by omega
   clear hb c0 c1 c2 c3 c4 c5 c6 aC aD aE aF aG aH aI a3 l aY au av
   go_wp2_with fail
   go_loopw [14] (fun y wq=>∃(k:Nat),k<=n+1/\y=I J k/\zk (fun j=>j=w.1.size+1) wr wq/\JK wq (w.1.size+1) ((n+1)*3)) (fun y _=>n+1-(intOf y).toNat)
   case atStart=>exact⟨0,za _,rfl,zk.refl _ _,ud ag⟩
   case round=>
    obtain⟨j,hj,rfl,z,d⟩:=hrel
    obtain⟨b8,c0,c1,c2,c3,c4,c5,c6⟩:=(ud ad).kept z (by omega)
    by_cases b6:j<=n
    ·obtain⟨v0,x0⟩:=d.cell (j*3) (by omega)
     obtain⟨v1,x1⟩:=d.cell (j*3+1) (by omega)
     obtain⟨v2,x2⟩:=d.cell (j*3+2) (by omega)
     have an:=fun o=>d.free o
     have aO:(j:Int)<=n:=by omega
     have aZ:(j:Int)<(n:Int)+1:=by omega
     have b4:=d.lt
     have a7:=zd z
     have aB:=zd d
     clear z d
     go_wp2_with fail
     go_roundw
     case rel=>exact⟨j+1,by omega,by go_num,zq (zq (zq (ud a7) rfl) rfl) rfl,(((ud aB).set _ _).set _ _).set _ _⟩
     case measure=>simp[intOf];omega
    ·have aO:¬(j:Int)<=n:=by omega
     have a7:=zd z
     clear z d c0 c1 c2 c3 c4 c5 c6
     go_wp2_with(go_at_call 135;refine(KO _ _).mono ?_;rintro e V1 ⟨rfl,ak⟩;rw[ak];clear ak)
     have ao:zk (fun j=>j=w.1.size+1) w5 wr:=(zk.of_below (f:=fun j=>j=w.1.size+1) (ud ay)).trans (ud a7) (fun _ _ h=>h)
     have aP:zk f w wr:=(ud az).trans ao (fun i hi e=>by omega)
     have aJ:=hR xo m w5 wr ao (ud aA)
     (try simp only[Exit.inBlock,Exit.then])
     refine bodyPost_ret (results_tmp3 rfl _ _ _) rfl ?_
     exact⟨xo,m,rfl,aP,aJ⟩
def Yd(L:LV)(f se a:Int)(j:Nat):List Cl:=(List.range j).filterMap (fun i:Nat=>(ku L ⟨f,se,a+i⟩).map (·.cl))
theorem zaG(L:LV)(f se a:Int)(j:Nat):Yd L f se a (j+1)=Yd L f se a j++(match ku L ⟨f,se,a+j⟩with|some v=>[v.cl]|none=>[]):=by
 unfold Yd
 rw[List.range_succ,List.filterMap_append]
 congr 1
 cases h:ku L ⟨f,se,a+j⟩<;>simp[h]
def vo(c:Cf)(L:LV)(se wn:Int)(k:Nat):List Cl:=Yd L (c.F k) se (wn*zbB c k) (zbB c k).toNat
def vw(l:List Int):List UInt8:=l.flatMap (fun n=>32::Lib.itoa n)
def KI(st:Int):Bool:=st==1||st==3
def zhO(x:SX):List Int:=[x.1.t,x.1.se,x.1.wn,x.2.st]
def zif(x:SX):List Int:=[x.2.cl.cnt,x.2.cl.sum,x.2.cl.mn,x.2.cl.mx]
def ziU(x:SX):List UInt8:=vw (zhO x)++(if KI x.2.st then vw (zif x)else[])
def JJ(now:Int)(xs:List SX):List UInt8:=Lib.itoa now++xs.flatMap ziU
theorem zik(u:Nat):0<(Lib.decDigits u).length:=by
 unfold Lib.decDigits
 split<;>simp
theorem zgt(n:Int):0<(Lib.itoa n).length:=by
 unfold Lib.itoa
 split
 ·simp
 ·exact zik _
theorem zcI(l:List Int)(n:Int):vw (l++[n])=vw l++32::Lib.itoa n:=by simp[vw]
theorem vX:∀(l:List Int),(∀n∈l,xR n)->(vw l).length<=22*l.length
 |[],_=>by simp[vw]
 |n::l,h=>by
  have b:=vX l (fun m a=>h m (by simp[a]))
  have c:=Lib.itoa_length_le n (h n (by simp)).1 (h n (by simp)).2
  simp only[vw,List.flatMap_cons,List.length_append,List.length_cons]at*
  omega
structure okX(x:SX):Prop where
 key:x.1.wf
 st:xR x.2.st
 cnt:xR x.2.cl.cnt
 sum:xR x.2.cl.sum
 mn: -2147483648<=x.2.cl.mn/\x.2.cl.mn<=2147483647
 mx: -2147483648<=x.2.cl.mx/\x.2.cl.mx<=2147483647
theorem okX.seg{x:SX}(h:okX x):∀n∈zhO x,xR n:=fun n hn=>by
 simp only[zhO,zf,List.not_mem_nil,or_false]at hn
 rcases hn with rfl|rfl|rfl|rfl
 ·exact h.key.1
 ·exact h.key.2.1
 ·exact h.key.2.2
 ·exact h.st
theorem okX.cel{x:SX}(h:okX x):∀n∈zif x,xR n:=fun n hn=>by
 have a:=h.mn
 have b:=h.mx
 simp only[zif,zf,List.not_mem_nil,or_false]at hn
 rcases hn with rfl|rfl|rfl|rfl
 ·exact h.cnt
 ·exact h.sum
 ·unfold xR;omega
 ·unfold xR;omega
theorem zhk{x:SX}(h:okX x):(ziU x).length<=176:=by
 have c:=vX (zhO x) h.seg
 have d:=vX (zif x) h.cel
 have a:(zhO x).length=4:=rfl
 have b:(zif x).length=4:=rfl
 unfold ziU
 rw[List.length_append]
 split
 ·omega
 ·simp;omega
theorem Jc(now:Int)(xs:List SX)(x:SX):JJ now (xs++[x])=JJ now xs++ziU x:=by simp[JJ]
theorem zbR:∀(xs:List SX),(∀x∈xs,okX x)->(xs.flatMap ziU).length<=176*xs.length
 |[],_=>by simp
 |x::xs,h=>by
  have b:=zbR xs (fun y a=>h y (by simp[a]))
  have c:=zhk (h x (by simp))
  simp only[List.flatMap_cons,List.length_append,List.length_cons];omega
theorem ZK{now:Int}{xs:List SX}(hn:xR now)(h:∀x∈xs,okX x):(JJ now xs).length<=21+176*xs.length:=by
 have a:=Lib.itoa_length_le now hn.1 hn.2
 have b:=zbR xs h
 unfold JJ;rw[List.length_append];omega
abbrev zkp(B:Nat)(w:U):Prop:=Lib.TabBelow prog B w "internal/strconv.uint64pow10" .u64 Lib.pow10Tab
theorem Vu(B n:Nat)(i:Int)(g:xR i)(f:T)(xs:List T)(w:U)(b:w.ownsRow B 5 1 f n xs)(d:B<=w.1.size)(a:n+21<=140737488355328)(c:zkp B w):
  Calls prog 167 #[f,I J i,I J 10] w fun e w'=>∃h,e=.returned h/\w'.ownsRow B 5 1 h (n+(Lib.itoa i).length) (xs++Lib.byteCells (Lib.itoa i))/\z0 B w w'/\Lib.OthersKept 5 O w w':=
 Any.strconv_AppendInt_10 Tryz.layAI B n i g.1 g.2 f xs w b d a c
theorem Tryz.infoByte:(prog.info? 5).map (fun i=>(i.zero,i.size,i.bytes))=E (E (.int .u8 0),1,1):=by kernel_rfl
def Vo(w:U)(B:Nat)(v:T)(a:List UInt8):Prop:=w.ownsRow B 5 1 v a.length (Lib.byteCells a)
theorem Vo.push{w:U}{B:Nat}{v:T}{a cs:List UInt8}(h:w.ownsRow B 5 1 v (a.length+cs.length) (Lib.byteCells a++Lib.byteCells cs)):Vo w B v (a++cs):=by
 unfold Vo;rw[List.length_append,Lib.byteCells_append];exact h
theorem zis{l:List Int}{k:Nat}(h:k<l.length):∃x,l[k]?=E x:=⟨_,List.getElem?_eq_getElem h⟩
theorem zdv{l:List Int}{k:Nat}{x:Int}(h:l[k]?=E x):l.take (k+1)=l.take k++[x]:=by
 rw[List.take_add_one,h];rfl
theorem zcJ(l:List Int)(a:∀m∈l,xR m)(k:Nat):(vw (l.take k)).length<=22*l.length:=by
 have c:=vX (l.take k) (fun m b=>a m (List.mem_of_mem_take b))
 have d:(l.take k).length<=l.length:=List.length_take_le' _ _
 omega
theorem zch(B g:Nat)(l:List Int)(hl:∀m∈l,xR m)(a4:l.length<=100)(sv:T)(o:List UInt8)(w:U)(d:Vo w B sv o)(R:B<=w.1.size)(a1:o.length<=70368744177664)(f:zkp B w)
  (hg:w.1[g]?=E (.cells (l.map (fun n=>I J n)).toArray 2 (0,0))):
  Calls prog 168 #[sv,.slice (E ⟨g,0,O⟩) l.length l.length] w fun e w'=>∃v',e=.returned v'/\Vo w' B v' (o++vw l)/\z0 B w w'/\Lib.OthersKept 5 O w w':=by
 obtain⟨i0,hi,Y,Z,a0⟩:=info_parts Tryz.infoByte
 have HT:=zd f
 have HW:=zd d
 have HG:=zd hg
 have z:=zd hl
 clear f d hg hl
 go_enter func168,ntmps168
 go_wp2_with fail
 go_loopw [0,9] (fun v i wr=>∃k:Nat,k<=l.length/\i=I J k/\Vo wr B v (o++vw (l.take k))/\z0 B w wr/\Lib.OthersKept 5 O w wr) (fun _ i _=>l.length-(intOf i).toNat)
 case atStart=>exact⟨0,za _,rfl,by simpa[vw]using ud HW,z1 _ _,Lib.OthersKept.refl _ _ _⟩
 case round=>
  obtain⟨k,hk,rfl,hv,A,b⟩:=hrel
  have C:=zcJ l (ud z) k
  have r:=b g _ (ud HG) (by simp) (fun c fz e=>by cases e)
  have V:=A.size
  by_cases W:k<l.length
  ·obtain⟨m,N⟩:=zis W
   have D:=ud z m (List.mem_of_getElem? N)
   have x0:wr.cell? ⟨g,k,O⟩=E (I J m):=by rw[xd r];simp[N]
   have a3:(k:Int)<l.length:=by omega
   have HM:=zd N
   have Q:=zd A
   have h:=zd b
   have y:=zd hv
   have X:(o++vw (l.take k)).length<=70368744177664+22*100:=by rw[List.length_append];omega
   obtain⟨zs,x⟩:∃zs,o++vw (l.take k)=zs:=⟨_,rfl⟩
   have HZ:=zd x
   rw[x]at y X
   clear N A b hv r x
   go_wp2_with(at_builtin;refine wpList_append_own _ rfl _ _ 250 rfl B 5 i0 (.int .u8 0) 1 1 underlying250 hi Y Z a0 rfl (by decide) _ _ _ rfl ((ud y).alloc _) ⟨wr.1.size,0,O⟩ 1 1 [Value.int .u8 32] rfl rfl (by intro j u' M;match j,M with|0,M=>simp at M;subst M;simp[Addr.add]) (by intro u' L;simp at L;subst L;rfl) (by unfold maxLen;omega) (by omega) (by simp;omega) ?_)
   intro v2 P s a _
   have p:z0 B w P:=((ud Q).alloc (Nat.le_trans R V) _).grown a (by simp;omega) (fun k hk=>(World.ownsRow.lt (ud y) k hk).1)
   have F:Lib.OthersKept 5 O w P:=((ud h).alloc _).grown a (fun q hq=>by
    obtain⟨a2,hc⟩:=zz ((ud y).alloc _) hq
    exact⟨_,_,hc⟩)
   have t:Vo P B v2 (zs++[32]):=by
    unfold Vo;rw[List.length_append,Lib.byteCells_append];exact s
   go_wp2_with(go_at_call 167;refine(Vu B _ m D v2 _ P t (by have:=p.size;omega) (by rw[List.length_append];simp;omega) ((ud HT).on p)).mono ?_;rintro e w3 ⟨v3,rfl,u,S,K⟩)
   go_roundw
   case rel=>
    refine⟨k+1,by omega,by go_num,?_,p.trans S,F.trans K⟩
    have e:o++vw (l.take (k+1))=(zs++[32])++Lib.itoa m:=by
     rw[zdv (ud HM),zcI,<-ud HZ];simp
    rw[e]
    exact Vo.push u
   case measure=>simp[intOf];omega
  ·obtain rfl:k=l.length:=by omega
   rw[List.take_length]at hv
   have y:=zd hv
   have Q:=zd A
   have h:=zd b
   clear hv A b r C
   go_wp2_with fail
   go_ret
   exact⟨_,rfl,ud y,ud Q,ud h⟩
theorem Qw(st:Int)(w:U):Calls prog 169 #[I J st] w fun e w'=>e=.returned (.bool (KI st))/\w'=w:=by
 unfold KI
 cases a:(st==1)
 ·cases b:(st==3)
  ·go_enter func169,ntmps169
   go_wp2_with fail
   go_ret
   exact⟨rfl,rfl⟩
  ·go_enter func169,ntmps169
   go_wp2_with fail
   go_ret
   exact⟨rfl,rfl⟩
 ·go_enter func169,ntmps169
  go_wp2_with fail
  go_ret
  exact⟨rfl,rfl⟩
def qY(P:Nm->Prop)[DecidablePred P]:List Nm->Int
 |[]=>0
 |x::r=>(if P x then 1 else 0)+qY P r
def Vr(P:Nm->Prop)[DecidablePred P]:List Nm->Int
 |[]=>0
 |x::r=>(if P x then x.val else 0)+Vr P r
structure IsC(P:Nm->Prop)[DecidablePred P](ns:List Nm)(a:Cl):Prop where
 cnt:a.cnt=qY P ns
 sum:a.sum=wrap64 (Vr P ns)
 none:qY P ns=0->a.mn=0/\a.mx=0
 mn:qY P ns≠0->(∃x∈ns,P x/\x.val=a.mn)/\∀x∈ns,P x->a.mn<=x.val
 mx:qY P ns≠0->(∃x∈ns,P x/\x.val=a.mx)/\∀x∈ns,P x->x.val<=a.mx
section
variable {P Q:Nm->Prop} [DecidablePred P] [DecidablePred Q] {ns:List Nm}
theorem yt:∀ns:List Nm,0<=qY P ns/\qY P ns<=ns.length
 |[]=>by simp[qY]
 |x::r=>by
  have:=yt r
  simp only[qY,List.length_cons]
  split<;>omega
theorem qi:∀{ns:List Nm},qY P ns=0↔∀x∈ns,¬P x
 |[]=>by simp[qY]
 |x::r=>by
  have e:=yt (P:=P) r
  have b:=qi (ns:=r)
  simp only[qY,zf,forall_eq_or_imp]
  constructor
  ·intro h
   by_cases a:P x
   ·rw[if_pos a]at h;omega
   ·rw[if_neg a]at h;exact⟨a,b.1 (by omega)⟩
  ·rintro⟨c,d⟩
   rw[if_neg c,b.2 d];rfl
theorem Jp:∀{ns:List Nm},(∀x∈ns,¬P x)->Vr P ns=0
 |[],_=>by simp[Vr]
 |x::r,h=>by
  have a:=Jp (ns:=r) (fun y b=>h y (by simp[b]))
  simp only[Vr]
  rw[if_neg (h x (by simp)),a];rfl
theorem jm:∀{ns:List Nm},(∀x∈ns,P x↔Q x)->qY P ns=qY Q ns/\Vr P ns=Vr Q ns
 |[],_=>by simp[qY,Vr]
 |x::r,h=>by
  have a:=jm (ns:=r) (fun y c=>h y (by simp[c]))
  have b:=h x (by simp)
  simp only[qY,Vr,b,a.1,a.2,and_self]
theorem zdW{R:Nm->Prop}[DecidablePred R]:∀{ns:List Nm},(∀x∈ns,R x↔P x\/Q x)->(∀x∈ns,¬(P x/\Q x))->qY R ns=qY P ns+qY Q ns/\Vr R ns=Vr P ns+Vr Q ns
 |[],_,_=>by simp[qY,Vr]
 |x::r,h,hn=>by
  have c:=zdW (ns:=r) (fun y b=>h y (by simp[b])) (fun y b=>hn y (by simp[b]))
  have a:=h x (by simp)
  have d:=hn x (by simp)
  simp only[qY,Vr,c.1,c.2]
  by_cases p:P x
  ·have q:¬Q x:=fun q=>d ⟨p,q⟩
   simp only[a,p,q,true_or,if_true,if_false];constructor<;>omega
  ·by_cases q:Q x
   ·simp only[a,p,q,or_true,if_true,if_false];constructor<;>omega
   ·simp only[a,p,q,or_self,if_false];constructor<;>omega
theorem IsC.congr{a:Cl}(h:IsC P ns a)(c:∀x∈ns,P x↔Q x):IsC Q ns a:=by
 obtain⟨f,k⟩:=jm c
 refine⟨by rw[h.cnt,f],by rw[h.sum,k],fun b=>h.none (by rw[f];exact b),fun b=>?_,fun b=>?_⟩
 ·obtain⟨⟨x,d,i,ex⟩,g⟩:=h.mn (by rw[f];exact b)
  exact⟨⟨x,d,(c x d).1 i,ex⟩,fun y e j=>g y e ((c y e).2 j)⟩
 ·obtain⟨⟨x,d,i,ex⟩,g⟩:=h.mx (by rw[f];exact b)
  exact⟨⟨x,d,(c x d).1 i,ex⟩,fun y e j=>g y e ((c y e).2 j)⟩
theorem IsC.one{a b:Cl}(h:IsC P ns a)(k:IsC P ns b):a=b:=by
 obtain⟨L,M,a3,a4⟩:=a
 obtain⟨N,Q,n,o⟩:=b
 have f:=h.cnt.trans k.cnt.symm
 have g:=h.sum.trans k.sum.symm
 simp only at f g
 subst f g
 by_cases c:qY P ns=0
 ·obtain⟨j,d⟩:=h.none c
  obtain⟨l,e⟩:=k.none c
  simp only at j d l e
  subst j d l e;rfl
 ·obtain⟨⟨x,w,D,ex⟩,d⟩:=h.mn c
  obtain⟨⟨y,A,F,s⟩,e⟩:=k.mn c
  obtain⟨⟨z,B,K,t⟩,m⟩:=h.mx c
  obtain⟨⟨u,v,C,r⟩,i⟩:=k.mx c
  simp only at ex s t r d e m i
  have:=d y A F;have:=e x w D;have:=m u v C;have:=i z B K
  have p:a3=n:=by omega
  have q:a4=o:=by omega
  subst p q;rfl
theorem IsC.zero(h:∀x∈ns,¬P x):IsC P ns qC:=by
 have b:=qi.2 h
 have c:=Jp h
 exact⟨by rw[b];rfl,by rw[c];show(0:Int)=wrap64 0;unfold wrap64;omega,fun _=>⟨rfl,rfl⟩,fun a=>absurd b a,fun a=>absurd b a⟩
theorem Zr(x:Nm):∀ns:List Nm,qY P (ns++[x])=qY P ns+(if P x then 1 else 0)/\Vr P (ns++[x])=Vr P ns+(if P x then x.val else 0)
 |[]=>by simp[qY,Vr]
 |y::r=>by
  have h:=Zr x r
  simp only[List.cons_append,qY,Vr,h.1,h.2]
  constructor<;>omega
theorem IsC.skip{a:Cl}{x:Nm}(h:IsC P ns a)(g:¬P x):IsC P (ns++[x]) a:=by
 obtain⟨c,l⟩:=Zr (P:=P) x ns
 rw[if_neg g,Int.add_zero]at c l
 refine⟨by rw[h.cnt,c],by rw[h.sum,l],fun d=>h.none (by rw[<-c];exact d),fun d=>?_,fun d=>?_⟩
 ·obtain⟨⟨y,i,j,f⟩,k⟩:=h.mn (by rw[<-c];exact d)
  refine⟨⟨y,by simp[i],j,f⟩,fun z b e=>?_⟩
  rcases List.mem_append.1 b with b|b
  ·exact k z b e
  ·rw[List.mem_singleton]at b;subst b;exact absurd e g
 ·obtain⟨⟨y,i,j,f⟩,k⟩:=h.mx (by rw[<-c];exact d)
  refine⟨⟨y,by simp[i],j,f⟩,fun z b e=>?_⟩
  rcases List.mem_append.1 b with b|b
  ·exact k z b e
  ·rw[List.mem_singleton]at b;subst b;exact absurd e g
def zhX(a:Cl)(v:Int):Cl:=⟨a.cnt+1,wrap64 (a.sum+v),if a.cnt=0\/v<a.mn then v else a.mn,if a.cnt=0\/a.mx<v then v else a.mx⟩
theorem IsC.add{a:Cl}{x:Nm}(h:IsC P ns a)(e:P x):IsC P (ns++[x]) (zhX a x.val):=by
 obtain⟨p,n⟩:=Zr (P:=P) x ns
 rw[if_pos e]at p n
 have hn:=yt (P:=P) ns
 have q:=h.cnt
 refine⟨by show a.cnt+1=_;omega,by show wrap64 (a.sum+x.val)=_;rw[h.sum,zfT,n],fun o=>by omega,fun o=>?_,fun o=>?_⟩
 ·by_cases f:qY P ns=0
  ·have d:=qi.1 f
   refine⟨⟨x,by simp,e,?_⟩,fun z b c=>?_⟩
   ·show x.val=if a.cnt=0\/x.val<a.mn then x.val else a.mn
    rw[if_pos (.inl (by omega))]
   ·show(if a.cnt=0\/x.val<a.mn then x.val else a.mn)<=z.val
    rw[if_pos (.inl (by omega))]
    rcases List.mem_append.1 b with b|b
    ·exact absurd c (d z b)
    ·rw[List.mem_singleton]at b;subst b;omega
  ·obtain⟨⟨y,k,m,i⟩,g⟩:=h.mn f
   have l:¬a.cnt=0:=by omega
   show(∃z∈ns++[x],P z/\z.val=(if a.cnt=0\/x.val<a.mn then x.val else a.mn))/\∀z∈ns++[x],P z->(if a.cnt=0\/x.val<a.mn then x.val else a.mn)<=z.val
   by_cases j:x.val<a.mn
   ·rw[if_pos (.inr j)]
    refine⟨⟨x,by simp,e,rfl⟩,fun z b c=>?_⟩
    rcases List.mem_append.1 b with b|b
    ·have:=g z b c;omega
    ·rw[List.mem_singleton]at b;subst b;omega
   ·rw[if_neg (by omega)]
    refine⟨⟨y,by simp[k],m,i⟩,fun z b c=>?_⟩
    rcases List.mem_append.1 b with b|b
    ·exact g z b c
    ·rw[List.mem_singleton]at b;subst b;omega
 ·by_cases f:qY P ns=0
  ·have d:=qi.1 f
   refine⟨⟨x,by simp,e,?_⟩,fun z b c=>?_⟩
   ·show x.val=if a.cnt=0\/a.mx<x.val then x.val else a.mx
    rw[if_pos (.inl (by omega))]
   ·show z.val<=(if a.cnt=0\/a.mx<x.val then x.val else a.mx)
    rw[if_pos (.inl (by omega))]
    rcases List.mem_append.1 b with b|b
    ·exact absurd c (d z b)
    ·rw[List.mem_singleton]at b;subst b;omega
  ·obtain⟨⟨y,k,m,i⟩,g⟩:=h.mx f
   have l:¬a.cnt=0:=by omega
   show(∃z∈ns++[x],P z/\z.val=(if a.cnt=0\/a.mx<x.val then x.val else a.mx))/\∀z∈ns++[x],P z->z.val<=(if a.cnt=0\/a.mx<x.val then x.val else a.mx)
   by_cases j:a.mx<x.val
   ·rw[if_pos (.inr j)]
    refine⟨⟨x,by simp,e,rfl⟩,fun z b c=>?_⟩
    rcases List.mem_append.1 b with b|b
    ·have:=g z b c;omega
    ·rw[List.mem_singleton]at b;subst b;omega
   ·rw[if_neg (by omega)]
    refine⟨⟨y,by simp[k],m,i⟩,fun z b c=>?_⟩
    rcases List.mem_append.1 b with b|b
    ·exact g z b c
    ·rw[List.mem_singleton]at b;subst b;omega
end
theorem IsC.join{P Q R:Nm->Prop}[DecidablePred P][DecidablePred Q][DecidablePred R]{ns:List Nm}{zs:List Cl}{z:Cl}(h:IsC P ns (qc zs))(A:zs=[]↔qY P ns=0)(k:IsC Q ns z)(S:qY Q ns≠0)(f:∀x∈ns,R x↔P x\/Q x)(hn:∀x∈ns,¬(P x/\Q x))(hl:(ns.length:Int)<9223372036854775808):
  IsC R ns (qc (zs++[z]))/\qY R ns≠0:=by
 obtain⟨X,Y⟩:=zdW f hn
 have b1:=yt (P:=P) ns
 have b2:=yt (P:=Q) ns
 have b3:=yt (P:=R) ns
 have N:qY R ns≠0:=by omega
 have V:=h.cnt
 have W:=h.sum
 have jc:(qc (zs++[z])).cnt=wrap64 ((qc zs).cnt+z.cnt):=by simp only[qc,List.map_append,List.map_cons,List.map_nil,ZU]
 have js:(qc (zs++[z])).sum=wrap64 ((qc zs).sum+z.sum):=by simp only[qc,List.map_append,List.map_cons,List.map_nil,ZU]
 have k1:=k.cnt
 have k2:=k.sum
 obtain⟨⟨B,o,w,t⟩,K⟩:=k.mn S
 obtain⟨⟨C,p,y,u⟩,M⟩:=k.mx S
 have D:(∃x∈ns,R x/\x.val=(qc (zs++[z])).mn)/\∀x∈ns,R x->(qc (zs++[z])).mn<=x.val:=by
  simp only[qc,ka]
  cases b:qX Yn zs with
  |none=>
   have d:zs=[]:=by
    rcases List.eq_nil_or_concat zs with h|⟨l,x,rfl⟩
    ·exact h
    ·rw[List.concat_eq_append,ka]at b;unfold vB at b;split at b<;>(try split at b)<;>cases b
   have c:=qi.1 (A.1 d)
   simp only[vB,Option.getD_some]
   exact⟨⟨B,o,(f B o).2 (.inr w),t⟩,fun x a n=>((f x a).1 n).elim (fun s=>absurd s (c x a)) (K x a)⟩
  |some g=>
   have d:zs≠[]:=fun e=>by rw[e]at b;cases b
   have c:qY P ns≠0:=fun e=>d (A.2 e)
   obtain⟨⟨v,m,r,i⟩,q⟩:=h.mn c
   simp only[qc,b,Option.getD_some]at i q
   simp only[vB,Yn,zcl]
   by_cases j:z.mn<g.mn
   ·simp only[j,if_true,show(-1:Int)<0 by omega,Option.getD_some]
    refine⟨⟨B,o,(f B o).2 (.inr w),t⟩,fun x a n=>((f x a).1 n).elim (fun s=>?_) (K x a)⟩
    have:=q x a s;omega
   ·have:¬(if z.mn<g.mn then(-1:Int)else if g.mn<z.mn then 1 else 0)<0:=by rw[if_neg j];split<;>omega
    simp only[this,if_false,Option.getD_some]
    refine⟨⟨v,m,(f v m).2 (.inl r),i⟩,fun x a n=>((f x a).1 n).elim (q x a) (fun L=>?_)⟩
    have:=K x a L;omega
 have F:(∃x∈ns,R x/\x.val=(qc (zs++[z])).mx)/\∀x∈ns,R x->x.val<=(qc (zs++[z])).mx:=by
  simp only[qc,ka]
  cases b:qX Yo zs with
  |none=>
   have d:zs=[]:=by
    rcases List.eq_nil_or_concat zs with h|⟨l,x,rfl⟩
    ·exact h
    ·rw[List.concat_eq_append,ka]at b;unfold vB at b;split at b<;>(try split at b)<;>cases b
   have c:=qi.1 (A.1 d)
   simp only[vB,Option.getD_some]
   exact⟨⟨C,p,(f C p).2 (.inr y),u⟩,fun x a n=>((f x a).1 n).elim (fun s=>absurd s (c x a)) (M x a)⟩
  |some g=>
   have d:zs≠[]:=fun e=>by rw[e]at b;cases b
   have c:qY P ns≠0:=fun e=>d (A.2 e)
   obtain⟨⟨v,m,r,i⟩,q⟩:=h.mx c
   simp only[qc,b,Option.getD_some]at i q
   simp only[vB,Yo,zcl]
   by_cases j:g.mx<z.mx
   ·simp only[j,if_true,show(-1:Int)<0 by omega,Option.getD_some]
    refine⟨⟨C,p,(f C p).2 (.inr y),u⟩,fun x a n=>((f x a).1 n).elim (fun s=>?_) (M x a)⟩
    have:=q x a s;omega
   ·have:¬(if g.mx<z.mx then(-1:Int)else if z.mx<g.mx then 1 else 0)<0:=by rw[if_neg j];split<;>omega
    simp only[this,if_false,Option.getD_some]
    refine⟨⟨v,m,(f v m).2 (.inl r),i⟩,fun x a n=>((f x a).1 n).elim (q x a) (fun L=>?_)⟩
    have:=M x a L;omega
 refine⟨⟨?_,?_,fun Z=>absurd Z N,fun _=>D,fun _=>F⟩,N⟩
 ·rw[jc,V,k1,<-X];unfold wrap64;omega
 ·rw[js,W,k2,Y];unfold wrap64;omega
theorem Jn{L:LV}{wd f se a:Int}{ns:List Nm}(p:(ns.length:Int)<9223372036854775808):∀j:Nat,
  (∀i:Nat,i<j->(∀v,ku L ⟨f,se,a+i⟩=E v->IsC (fun x:Nm=>x.se=se/\x.tm/wd=a+i) ns v.cl/\qY (fun x:Nm=>x.se=se/\x.tm/wd=a+i) ns≠0)/\(ku L ⟨f,se,a+i⟩=O->∀x∈ns,¬(x.se=se/\x.tm/wd=a+i)))->
  IsC (fun x:Nm=>x.se=se/\a<=x.tm/wd/\x.tm/wd<a+j) ns (qc (Yd L f se a j))/\(Yd L f se a j=[]↔qY (fun x:Nm=>x.se=se/\a<=x.tm/wd/\x.tm/wd<a+j) ns=0)
 |0,_=>by
  have m:∀x∈ns,¬(x.se=se/\a<=x.tm/wd/\x.tm/wd<a+(0:Nat)):=fun x _ ⟨_,b,c⟩=>by
   have:((0:Nat):Int)=0:=rfl
   omega
  exact⟨IsC.zero m,by simp only[Yd,List.range_zero,List.filterMap_nil,true_iff];exact qi.2 m⟩
 |j+1,h=>by
  obtain⟨q,r⟩:=Jn p j (fun i A=>h i (by omega))
  obtain⟨s,t⟩:=h j (by omega)
  have g:((j+1:Nat):Int)=(j:Int)+1:=by omega
  rw[zaG]
  cases o:ku L ⟨f,se,a+j⟩with
  |none=>
   have k:=t o
   have n:∀x∈ns,(x.se=se/\a<=x.tm/wd/\x.tm/wd<a+j)↔(x.se=se/\a<=x.tm/wd/\x.tm/wd<a+(j+1:Nat)):=fun x l=>by
    have:=k x l
    constructor
    ·rintro⟨b,c,d⟩;exact⟨b,c,by omega⟩
    ·rintro⟨b,c,d⟩
     refine⟨b,c,?_⟩
     have:x.tm/wd≠a+j:=fun e=>this ⟨b,e⟩
     omega
   simp only[List.append_nil]
   exact⟨q.congr n,by rw[r,(jm n).1]⟩
  |some v=>
   obtain⟨z,v2⟩:=s v o
   obtain⟨w,y⟩:=IsC.join (R:=fun x:Nm=>x.se=se/\a<=x.tm/wd/\x.tm/wd<a+(j+1:Nat)) q r z v2 (fun x l=>by
    constructor
    ·rintro⟨b,c,d⟩
     by_cases u:x.tm/wd=a+j
     ·exact .inr ⟨b,u⟩
     ·exact .inl ⟨b,c,by omega⟩
    ·rintro(⟨b,c,d⟩|⟨b,c⟩)
     ·exact⟨b,c,by omega⟩
     ·exact⟨b,by omega,by omega⟩) (fun x l ⟨⟨_,_,b⟩,_,c⟩=>by omega) p
   exact⟨w,by simp only[List.append_eq_nil_iff,List.cons_ne_nil,and_false,false_iff];exact y⟩
theorem zgf{X:U}{lb:Nat}{L:LV}(h:xj qN X lb (kH L)){k:Sg}(j:k.wf)(f:TypeId):
  ∃o,(Builtin.delete_ #[152,146] f #[.map (E lb),.agg #[I J k.t,I J k.se,I J k.wn]]).run prog X=.ok (.tuple #[]) (setBlock X lb o)/\xj qN (setBlock X lb o) lb (kH (xn L k))/\zk (fun k=>k=lb) X (setBlock X lb o):=by
 obtain⟨l,b,d,i⟩:=h
 obtain⟨a,g,c,m⟩:=zbN Z8 d i j f
 have e:xn (kH L) k=kH (xn L k):=by
  unfold xn kH;rw[List.filter_map];rfl
 rw[e]at c
 exact⟨.map a b,g,⟨a,b,qO (zb d) _,c⟩,qT _⟩
theorem xl.putLive{w w':U}{s:Nat}{c:Cf}{tv:T}{lb gb:Nat}{Gl:List (Sg×Unit)}{L f:LV}(h:xl w s c tv lb gb Gl L)(l:xj qN w' lb (kH f))(b:zk (fun k=>k=lb) w w'):xl w' s c tv lb gb Gl f:=by
 have a:∀{k:Nat} {cs:Array T} {t:TypeId} {i:Nat×Nat},w.1[k]?=E (.cells cs t i)->¬k=lb:=fun b e=>by
  obtain⟨n,m,j,_⟩:=h.live;rw[e,j]at b;cases b
 refine⟨b.heap h.head (a h.head),zg h.trow b (fun k b=>?_),xO.2 l,h.gone.kept b h.apart,h.apart⟩
 obtain⟨g,d⟩:=zz h.trow b
 exact a d
theorem xl.putGone{w w':U}{s:Nat}{c:Cf}{tv:T}{lb gb:Nat}{Gl d:List (Sg×Unit)}{L:LV}(h:xl w s c tv lb gb Gl L)(l:xj vf w' gb d)(b:zk (fun k=>k=gb) w w'):xl w' s c tv lb gb d L:=by
 have a:∀{k:Nat} {cs:Array T} {t:TypeId} {i:Nat×Nat},w.1[k]?=E (.cells cs t i)->¬k=gb:=fun b e=>by
  obtain⟨n,m,j,_⟩:=h.gone;rw[e,j]at b;cases b
 refine⟨b.heap h.head (a h.head),zg h.trow b (fun k b=>?_),h.live.kept b (fun e=>h.apart e.symm),l,h.apart⟩
 obtain⟨g,f⟩:=zz h.trow b
 exact a f
def xh(x:SX):List T:=[I J x.1.t,I J x.1.se,I J x.1.wn,I J x.2.st,I J x.2.cl.cnt,I J x.2.cl.sum,I H x.2.cl.mn,I H x.2.cl.mx]
def jG(w:U)(base:Nat)(v:T)(xs:List SX):Prop:=w.ownsRow base 148 8 v xs.length (xs.flatMap xh)
theorem jG.slice{w:U}{base:Nat}{v:T}{xs:List SX}(h:jG w base v xs):∃a cap,v=.slice a xs.length cap:=zm h
theorem jG.at{w:U}{base g cap:Nat}{xs:List SX}(h:jG w base (.slice (E ⟨g,0,O⟩) xs.length cap) xs){j:Nat}{x:SX}(b:xs[j]?=E x):
  w.cell? ⟨g,j*8,O⟩=E (I J x.1.t)/\w.cell? ⟨g,j*8+1,O⟩=E (I J x.1.se)/\w.cell? ⟨g,j*8+2,O⟩=E (I J x.1.wn)/\w.cell? ⟨g,j*8+3,O⟩=E (I J x.2.st)/\
  w.cell? ⟨g,j*8+4,O⟩=E (I J x.2.cl.cnt)/\w.cell? ⟨g,j*8+5,O⟩=E (I J x.2.cl.sum)/\w.cell? ⟨g,j*8+6,O⟩=E (I H x.2.cl.mn)/\w.cell? ⟨g,j*8+7,O⟩=E (I H x.2.cl.mx):=by
 have d:j<xs.length:=(List.getElem?_eq_some_iff.1 b).1
 have a:=fun i c=>qw (f:=xh) (k:=8) (fun _=>rfl) xs j x i b c
 refine⟨?_,?_,?_,?_,?_,?_,?_,?_⟩
 ·rw[h.cellAt (j*8) (by omega)];exact a 0 (by omega)
 ·rw[h.cellAt (j*8+1) (by omega)];exact a 1 (by omega)
 ·rw[h.cellAt (j*8+2) (by omega)];exact a 2 (by omega)
 ·rw[h.cellAt (j*8+3) (by omega)];exact a 3 (by omega)
 ·rw[h.cellAt (j*8+4) (by omega)];exact a 4 (by omega)
 ·rw[h.cellAt (j*8+5) (by omega)];exact a 5 (by omega)
 ·rw[h.cellAt (j*8+6) (by omega)];exact a 6 (by omega)
 ·rw[h.cellAt (j*8+7) (by omega)];exact a 7 (by omega)
theorem jG.form{w:U}{base:Nat}{a:Option Addr}{n cap:Nat}{xs:List SX}(h:jG w base (.slice a n cap) xs)(e:0<xs.length):∃g,a=E ⟨g,0,O⟩/\n=xs.length/\g<w.1.size:=by
 obtain⟨g,d,c,j,b⟩:=World.ownsRow.form h e
 injection c with f i k
 exact⟨g,f,i,b⟩
theorem zhG{l:List SX}{k:Nat}(h:k<l.length):∃x,l[k]?=E x:=⟨_,List.getElem?_eq_getElem h⟩
theorem ZP{l:List SX}{k:Nat}{x:SX}(h:l[k]?=E x):l.take (k+1)=l.take k++[x]:=by
 rw[List.take_add_one,h];rfl
theorem zgZ(q:List (Sg×Unit)×LV)(x:SX):(QY q x).1.length<=q.1.length+1/\(QY q x).2.length<=q.2.length+1:=by
 unfold QY
 split
 ·refine⟨?_,?_⟩
  ·show(qI q.1 x.1 ()).length<=_
   unfold qI;split<;>simp
  ·show(xn q.2 x.1).length<=_
   have:=List.length_filter_le (fun p:Sg×SV=>decide (p.1≠x.1)) q.2
   unfold xn;omega
 ·exact⟨Nat.le_succ _,zgY _ _ _⟩
theorem Y5:∀(xs:List SX) (q:List (Sg×Unit)×LV),(kA q xs).1.length<=q.1.length+xs.length/\(kA q xs).2.length<=q.2.length+xs.length
 |[],q=>by simp[kA]
 |x::xs,q=>by
  have a:=Y5 xs (QY q x)
  have b:=zgZ q x
  simp only[kA,List.foldl_cons,List.length_cons]at*
  omega
theorem zhb{X:U}{s lb gb:Nat}{c:Cf}{tv:T}{q:List (Sg×Unit)×LV}(h:xl X s c tv lb gb q.1 q.2)(a:q.2.length<maxLen){x:SX}(i:x.1.wf)(g:(x.2.st==4)=false):
  ∃o,(Instr.mapUpdate 152 (.map (E lb)) (.agg #[I J x.1.t,I J x.1.se,I J x.1.wn]) (.agg #[I J x.1.t,I J x.1.se,I J x.1.wn,I J x.2.st,I J x.2.cl.cnt,I J x.2.cl.sum,I H x.2.cl.mn,I H x.2.cl.mx])).run prog X=.ok () (setBlock X lb o)/\xl (setBlock X lb o) s c tv lb gb (QY q x).1 (QY q x).2/\zk (fun k=>k=lb\/k=gb) X (setBlock X lb o):=by
 obtain⟨o,b,d,f,-⟩:=zdn h a i x.2
 have e:QY q x=(q.1,yL q.2 x.1 x.2):=by unfold QY;rw[if_neg (by simpa using g)]
 refine⟨o,b,by rw[e];exact d,f.mono (fun k _ e=> .inl e)⟩
theorem zha{X:U}{s lb gb:Nat}{c:Cf}{tv:T}{q:List (Sg×Unit)×LV}(h:xl X s c tv lb gb q.1 q.2)(a:q.1.length<maxLen){x:SX}(p:x.1.wf)(u:(x.2.st==4)=true)(r:TypeId):
  ∃o j,(Builtin.delete_ #[152,146] r #[.map (E lb),.agg #[I J x.1.t,I J x.1.se,I J x.1.wn]]).run prog X=.ok (.tuple #[]) (setBlock X lb o)/\xl (setBlock X lb o) s c tv lb gb q.1 (xn q.2 x.1)/\zk (fun k=>k=lb) X (setBlock X lb o)/\
   (Instr.mapUpdate 153 (.map (E gb)) (.agg #[I J x.1.t,I J x.1.se,I J x.1.wn]) (.agg #[])).run prog (setBlock X lb o).drew=.ok () (setBlock (setBlock X lb o).drew gb j)/\xl (setBlock (setBlock X lb o).drew gb j) s c tv lb gb (QY q x).1 (QY q x).2/\zk (fun k=>k=gb) (setBlock X lb o).drew (setBlock (setBlock X lb o).drew gb j):=by
 obtain⟨o,i,m,f⟩:=zgf (X:=X) (xO.1 h.live) p r
 have l:=h.putLive m f
 have d:z0 (setBlock X lb o).1.size (setBlock X lb o) (setBlock X lb o).drew:=(z1 _ _).drew
 obtain⟨j,b,n,g,_⟩:=zjY (X:=(setBlock X lb o).drew) (l.later d).gone a p
 have e:QY q x=(qI q.1 x.1 (),xn q.2 x.1):=by unfold QY;rw[if_pos (by simpa using u)]
 exact⟨o,j,i,l,f,b,by rw[e];exact(l.later d).putGone n g,g⟩
theorem vS{α β:Type}{M:MK α β}{w:U}{b:Nat}{L:List (α×β)}(h:xj M w b L){k:Nat}{cs:Array T}{t:TypeId}{c:Nat×Nat}(a:w.1[k]?=E (.cells cs t c)):¬k=b:=fun e=>by
 obtain⟨g,f,d,_⟩:=h;rw[e,d]at a;cases a
theorem zgW{w:U}{s:Nat}{c:Cf}{tv:T}{lb gb:Nat}{Gl:List (Sg×Unit)}{L:LV}(h:xl w s c tv lb gb Gl L)(xs:List SX)(a2:∀x∈xs,x.1.wf)(a9:Gl.length+xs.length<=1000000000)(aa:L.length+xs.length<=1000000000)(base:Nat)(v:T)(hv:jG w base v xs):
  Calls prog 170 #[.pointer (E ⟨s,0,O⟩),v] w fun e w'=>e=.returned (.tuple #[])/\xl w' s c tv lb gb (kA (Gl,L) xs).1 (kA (Gl,L) xs).2/\zk (fun k=>k=lb\/k=gb) w w':=by
 obtain⟨ad,cap,rfl⟩:=hv.slice
 have a1:∀k,(Value.slice ad xs.length cap).ownBlock=E k->¬(k=lb\/k=gb):=fun k hk e=>by
  obtain⟨a6,hc⟩:=zz hv hk
  rcases e with e|e
  ·exact vS (xO.1 h.live) hc e
  ·exact vS h.gone hc e
 have aj:¬s=lb:=vS (xO.1 h.live) h.head
 have ai:¬s=gb:=vS h.gone h.head
 have HS:=zd h
 have HV:=zd hv
 have a3:=zd a1
 have a4:=zd a2
 have ac:xs.length<=1000000000:=by omega
 clear h hv a1 a2
 go_enter func170,ntmps170
 go_wp2_with fail
 go_loopw [8] (fun i wr=>∃k:Nat,k<=xs.length/\i=I J k/\xl wr s c tv lb gb (kA (Gl,L) (xs.take k)).1 (kA (Gl,L) (xs.take k)).2/\zk (fun k=>k=lb\/k=gb) w wr) (fun i _=>xs.length-(intOf i).toNat)
 case atStart=>exact⟨0,za _,rfl,by simpa[kA]using ud HS,zk.refl _ _⟩
 case round=>
  obtain⟨k,hk,rfl,V,m⟩:=hrel
  by_cases a5:k<xs.length
  ·obtain⟨x,hx⟩:=zhG a5
   have M:jG wr base (.slice ad xs.length cap) xs:=zg (ud HV) m (ud a3)
   obtain⟨g,rfl,-,a7⟩:=M.form (by omega)
   obtain⟨x0,x1,x2,x3,x4,x5,x6,x7⟩:=M.at hx
   have hq:=Y5 (xs.take k) (Gl,L)
   rw[List.length_take]at hq
   obtain⟨q,K⟩:∃q,kA (Gl,L) (xs.take k)=q:=⟨_,rfl⟩
   have HQ:=zd K
   rw[K]at V hq
   have N:=ud a4 x (List.mem_of_getElem? hx)
   have HX:=zd hx
   obtain⟨X,n⟩:∃X,(wr.alloc (.cells #[I J x.1.t,I J x.1.se,I J x.1.wn,I J x.2.st,I J x.2.cl.cnt,I J x.2.cl.sum,I H x.2.cl.mn,I H x.2.cl.mx] 148))=X:=⟨_,rfl⟩
   have B:z0 wr.1.size wr X:=by rw[<-n];exact(z1 _ _).alloc (G _) _
   have p:X.1[wr.1.size]?=E (.cells #[I J x.1.t,I J x.1.se,I J x.1.wn,I J x.2.st,I J x.2.cl.cnt,I J x.2.cl.sum,I H x.2.cl.mn,I H x.2.cl.mx] 148 (0,0)):=by rw[<-n];exact zr _ _
   have j:=V.later B
   obtain⟨-,-,-,-,-,-,-,c7,c8⟩:=j.cells
   obtain⟨y0,y1,y2,y3,y4,y5,y6,y7,-⟩:=zc p
   have A:z0 X.1.size X X.drew:=(z1 _ _).drew
   have D:zk (fun k=>k=lb\/k=gb) w X.drew:=(m.trans (zk.of_below (f:=fun _=>False) B) (fun _ _ e=>e.elim)).drew
   have ag:=j.lt
   have F:=zb p
   have ab:=j.live.lt
   have S:¬wr.1.size=lb:=vS (xO.1 j.live) p
   have a8:(k:Int)<xs.length:=by omega
   have W:=zd n
   obtain⟨Q,R⟩:=hq
   cases he:(x.2.st==4)
   ·obtain⟨o,u,z,P⟩:=zhb (X:=X.drew) (j.later A) (by simp only[maxLen];dsimp only at R;omega) N he
    obtain⟨Y,r⟩:∃Y,setBlock X.drew lb o=Y:=⟨_,rfl⟩
    rw[r]at u z P
    have d:Hid (xl Y s c tv lb gb (QY q x).1 (QY q x).2/\zk (fun k=>k=lb\/k=gb) w Y):=⟨z,D.trans P (fun _ _ e=>e)⟩
    clear z P D A j p B n M V m hx N K r Q R
    go_wp2_with fail
    rw[ud W]
    go_wp2_with fail
    go_region
    go_wp2_with fail
    go_roundw
    case rel=>exact⟨k+1,by omega,by go_num,by rw[ZP (ud HX),Xl,ud HQ];exact(ud d).1,(ud d).2⟩
    case measure=>simp[intOf];omega
   ·obtain⟨o,o2,u,a,l,y,b,C⟩:=zha (X:=X.drew) (j.later A) (by simp only[maxLen];dsimp only at Q;omega) N he 0
    obtain⟨Y,r⟩:∃Y,setBlock X.drew lb o=Y:=⟨_,rfl⟩
    rw[r]at u a l y b C
    obtain⟨Z,a0⟩:∃Z,setBlock Y.drew gb o2=Z:=⟨_,rfl⟩
    rw[a0]at y b C
    obtain⟨-,-,-,-,-,-,-,-,d8⟩:=a.cells
    have ak:Y.cell? ⟨wr.1.size,0,O⟩=E (I J x.1.t):=(zF (i:=0) l S F).trans y0
    have al:Y.cell? ⟨wr.1.size,1,O⟩=E (I J x.1.se):=(zF (i:=1) l S F).trans y1
    have am:Y.cell? ⟨wr.1.size,2,O⟩=E (I J x.1.wn):=(zF (i:=2) l S F).trans y2
    have ah:=a.lt
    have af:wr.1.size<Y.1.size:=z9 F l.size
    have d:Hid (xl Z s c tv lb gb (QY q x).1 (QY q x).2/\zk (fun k=>k=lb\/k=gb) w Z):=⟨b,((D.trans (l.mono (fun k _ e=> .inl e)) (fun _ _ e=>e)).drew).trans (C.mono (fun k _ e=> .inr e)) (fun _ _ e=>e)⟩
    clear a b l C D A j p B n M V m hx N K r a0 Q R
    go_wp2_with fail
    rw[ud W]
    go_wp2_with fail
    go_region
    go_wp2_with fail
    go_region
    go_wp2_with fail
    go_roundw
    case rel=>exact⟨k+1,by omega,by go_num,by rw[ZP (ud HX),Xl,ud HQ];exact(ud d).1,(ud d).2⟩
    case measure=>simp[intOf];omega
  ·obtain rfl:k=xs.length:=by omega
   have ae:decide ((xs.length:Int)<xs.length)=false:=by simp
   rw[List.take_length]at V
   have HR:=zd V
   have HK:=zd m
   clear V m
   go_wp2_with fail
   go_end0
   exact⟨rfl,ud HR,ud HK⟩
attribute [local go_sem] Oper.semAt_some
theorem zdQ:(prog.info? 148).map (fun i=>(i.zero,i.size,i.bytes))=E (E (.agg #[I J 0,I J 0,I J 0,I J 0,I J 0,I J 0,I H 0,I H 0]),8,56):=by kernel_rfl
theorem zba:∃i:TypeInfo,prog.info? 148=E i/\i.zero=E (.agg #[I J 0,I J 0,I J 0,I J 0,I J 0,I J 0,I H 0,I H 0])/\i.size=8/\i.bytes=56:=by
 have h:=zdQ
 cases a:prog.info? 148 with
 |none=>simp[a]at h
 |some i=>
  simp only[a,Option.map_some,Option.some.injEq,Prod.mk.injEq]at h
  exact⟨i,rfl,h.1,h.2.1,h.2.2⟩
theorem vC(x:SX):∀v∈xh x,v.oneCell'=true:=fun v hv=>by
 simp only[xh,zf,List.not_mem_nil,or_false]at hv
 rcases hv with rfl|rfl|rfl|rfl|rfl|rfl|rfl|rfl<;>rfl
theorem zfD{w:U}{base:Nat}{e:TypeId}{v:T}{l:List SX}{f:SX}(h:w.ownsRow base e 8 v (l.length+1) (l.flatMap xh++xh f)):w.ownsRow base e 8 v (l++[f]).length ((l++[f]).flatMap xh):=by
 rw[List.length_append,List.flatMap_append];simpa using h
def zkl(w:U)(a:List SX)(W:U):Prop:=∃v,W.1[w.1.size]?=E (.cells #[v] 105 (0,0))/\W.ownsRow w.1.size 148 8 v a.length (a.flatMap xh)/\z0 w.1.size w W
theorem zkl.later{w:U}{a:List SX}{W c:U}(h:zkl w a W)(b:z0 W.1.size W c):zkl w a c:=by
 obtain⟨v,d,i,g⟩:=h
 exact⟨v,(b.block _ (zb d)).trans d,zg i (zk.of_below (f:=fun _=>False) b) (fun _ _ e=>e),g.trans (b.mono g.size)⟩
theorem Qt{W c:U}{base:Nat}{e:TypeId}{size:Nat}{v:T}{n:Nat}{xs:List T}(i:W.ownsRow base e size v n xs)(d:W.grownBy c v.ownBlock)(B:Nat):KeepsFrom B W c/\KeepsWalks W c:=by
 have key:∀(k:Nat) (o:Obj),W.1[k]?=E o->o.isCells=false->c.1[k]?=E o:=fun k o a b=>(d.block k (zb a) (fun e=>by
  rcases i.2 with⟨rfl,_⟩|⟨g,cap,h,rfl,_,f,_⟩
  ·simp[Value.ownBlock]at e
  ·have:k=g:=by simpa[Value.ownBlock]using e
   subst this;rw[f]at a;cases a;cases b)).trans a
 exact⟨⟨d.size,fun k o _ a b=>key k o a b⟩,⟨d.size,fun k o a b=>key k o a (Obj.not_cells_of_walk b)⟩⟩
theorem zeY{F:Fence}{n:Nat}{W:U}{ops:Array Oper}{rest:List Oper}{o:Oper}{a:Act}{Q:Exit->Act->U->Prop}(m:o.guard=O)(s x:Operand)
  (B:o.op=.call {callee:=.builtin .append,args:=#[s,x],argTypes:=#[105,105]}) (base:Nat) (v:T) (l:List SX) (f:SX) (C:a.eval s=v) (e:W.ownsRow base 148 8 v l.length (l.flatMap xh))
  (i:Nat) (D:a.eval x=.slice (E ⟨i,0,O⟩) 1 1) (j:W.1[i]?=E (.cells #[I J f.1.t,I J f.1.se,I J f.1.wn,I J f.2.st,I J f.2.cl.cnt,I J f.2.cl.sum,I H f.2.cl.mn,I H f.2.cl.mx] 148 (0,0))) (L:l.length<=1000000) (hbase:base<=W.1.size)
  (h:∀g cap w',w'.ownsRow base 148 8 (.slice (E ⟨g,0,O⟩) (l.length+1) cap) (l++[f]).length ((l++[f]).flatMap xh)->W.grownBy w' v.ownBlock->g<w'.1.size->wpListIn F n prog ops Q rest (a.put o.dst (.slice (E ⟨g,0,O⟩) (l.length+1) cap)) w'):wpListIn F n prog ops Q (o::rest) a W:=by
 obtain⟨i0,A,p,q,r⟩:=zba
 refine wpListIn_append_own_at W m s x 105 B base 148 i0 (.agg #[I J 0,I J 0,I J 0,I J 0,I J 0,I J 0,I H 0,I H 0]) 8 56 underlying105 A p q r rfl (by decide) v l.length _ C e ⟨i,0,O⟩ 1 1 (xh f) D rfl (World.news_of_block (cs:=(xh f).toArray) j) (vC f) (by simp only[maxLen];omega) (by omega) hbase ?_
 intro M K b k u y
 obtain⟨z,c,rfl,w,d⟩:=b.form (by omega)
 exact h z c K (zfD b) k d
theorem zci(gf:Nat)(lb:Array T)(eg:∀args w,(callFunc gf args).run prog w=.ok (.enter gf args) w){N:Nat}{S:List SX->Prop}(w:U)(hN:N<=1000000)
  (q:Yl Fence.wide 6 prog gf lb (fun x:SX=>#[.agg #[I J x.1.t,I J x.1.se,I J x.1.wn,I J x.2.st,I J x.2.cl.cnt,I J x.2.cl.sum,I H x.2.cl.mn,I H x.2.cl.mx]]) KeepsWalks S (fun _=>True) N 0 w):
  Calls prog 245 #[.slice O 0 0,.func (.func gf) #[] lb] w fun e w'=>∃xs v,S xs/\e=.returned v/\w'.ownsRow w.1.size 148 8 v xs.length (xs.flatMap xh)/\z0 w.1.size w w':=by
 have V:=zd q
 have a3:=zd eg
 have b1:=zr w (.cells #[.slice O 0 0] 105)
 have bz:=zG w (.cells #[.slice O 0 0] 105)
 have a1:z0 w.1.size w (w.alloc (.cells #[.slice O 0 0] 105)):=(z1 _ _).alloc (G _) _
 clear q eg
 refine(callsIn_wide (n:=7)).1 ?_
 refine callsIn_of_wp_marks func245 rfl trivial ?_ rfl
 simp only[ntmps245,List.size_toArray,List.length_cons,List.length_nil,Nat.reduceAdd,Nat.reduceSub,Array.replicate_succ,Array.replicate_zero,List.push_toArray,List.append_toArray,List.nil_append,List.cons_append]
 have B1:=zd b1
 have u:=zd a1
 have BZ:=zd bz
 clear b1 a1 bz
 gi_wp2
 obtain⟨W0,a0⟩:∃W0,(w.alloc (.cells #[.slice O 0 0] 105))=W0:=⟨_,rfl⟩
 rw[a0]at B1 u BZ ⊢
 clear a0
 have hz:W0.1.size=w.1.size+1:=ud BZ
 refine yM (F:=Fence.wide) (n:=7) rfl (by omega) (gf:=gf) (lb:=lb) rfl trivial (ud a3) (ud V) (by omega) (fun h k=>h.trans k) (fun W o o' h hc hw=>KeepsWalks.putObj _ h hw) (ud u) (fun _=>rfl)
  (zkl w) (fun _ _ _=>False)
  (fun s A B row hs z C=>by
   obtain⟨v,Y,h2,Z⟩:=hs
   exact⟨v,zI Y z (fun r e=>(C r e).2),Q6 h2 z (fun r e=>(C r e).2),Z.grown z Z.size (fun k e=>by have:=(C k e).1;omega)⟩)
  (fun _ _ _ _ _ hs _ _=>hs)
  ⟨_,ud B1,⟨rfl,.inl ⟨rfl,rfl⟩⟩,ud u⟩
  (fun x a' W=>∃M,w.1.size+1<=M/\W.1[M]?=E (.cells #[I J x.1.t,I J x.1.se,I J x.1.wn,I J x.2.st,I J x.2.cl.cnt,I J x.2.cl.sum,I H x.2.cl.mn,I H x.2.cl.mx] 148 (0,0))/\a'={tmps:=#[.slice O 0 0,.func (.func gf) #[] lb,.pointer (E ⟨w.1.size,0,O⟩),undef,.slice O 0 0,.pointer (E ⟨M,0,O⟩),.func (.func gf) #[] lb,.agg #[I J x.1.t,I J x.1.se,I J x.1.wn,I J x.2.st,I J x.2.cl.cnt,I J x.2.cl.sum,I H x.2.cl.mn,I H x.2.cl.mx],undef,undef,undef,undef,undef],defers:=[]})
  (fun x a' s A B row hs z C=>by
   obtain⟨M,Y,h2,Z⟩:=hs
   exact⟨M,Y,zI h2 z (fun r e=>(C r e).2),Z⟩) ?assign ?body ?done ?stop
 case assign=>
  rintro l d x W K hI P
  have HK:=zd P
  have HI:=zd hI
  clear P hI
  gi_wp2
  have g:=(z1 W.1.size W).alloc (G _) (.cells #[I J x.1.t,I J x.1.se,I J x.1.wn,I J x.2.st,I J x.2.cl.cnt,I J x.2.cl.sum,I H x.2.cl.mn,I H x.2.cl.mx] 148)
  have af:w.1.size<W.1.size:=by obtain⟨v,Y,h2,Z⟩:=ud HI;exact zb Y
  exact ud HK _ _ (zw g) (KeepsWalks.alloc _ _) ((ud HI).later g) ⟨W.1.size,by omega,zr _ _,rfl⟩
 case body=>
  rintro l d x a' W hl ⟨r,C⟩ ⟨v,L,i2,i3⟩ ⟨M,ad,hx,rfl⟩ ae
  obtain⟨va,vc,rfl⟩:=zm i2
  have a9:=zb L
  have ag:=zb hx
  obtain⟨c1,-⟩:=zc L
  obtain⟨x0,x1,x2,x3,x4,x5,x6,x7,-⟩:=zc hx
  have R:=zd L
  have a:=zd i2
  have y:=zd i3
  have HX:=zd hx
  clear L i2 i3 hx C
  gi_wp2_with (first
   |(gi_at_builtin;refine zeY rfl _ _ rfl w.1.size _ d x rfl ((ud a).alloc _) W.1.size rfl (zr _ _) (by omega) (by rw[zG];omega) ?_;intro g' aa w3 b j ab
     have a2:=Qt ((ud a).alloc (.cells #[I J x.1.t,I J x.1.se,I J x.1.wn,I J x.2.st,I J x.2.cl.cnt,I J x.2.cl.sum,I H x.2.cl.mn,I H x.2.cl.mx] 148)) j W0.1.size
     have X:w3.1[w.1.size]?=E (.cells #[.slice va d.length vc] 105 (0,0)):=(j.block w.1.size (by rw[zG];omega) (fun e=>zx (ud R) (ud a) (by decide) w.1.size e.symm rfl)).trans ((Below.heap_alloc _ _ _ a9).trans (ud R))
     obtain⟨d1,-⟩:=zc X
     have f1:w3.frozen? ⟨w.1.size,0,O⟩=false:=zH X 0
     have ac:=zb X
     have a6:=zd b
     have a4:=zd j
     have a5:=zd a2
     have Q:=zd X
     clear b j a2 X
     go_frame)
   |gi_in)
  have hk:=ud a5
  have z:(W.alloc (.cells #[I J x.1.t,I J x.1.se,I J x.1.wn,I J x.2.st,I J x.2.cl.cnt,I J x.2.cl.sum,I H x.2.cl.mn,I H x.2.cl.mx] 148)).grownBy w3 (Value.slice va d.length vc).ownBlock:=ud a4
  have m:=ud a6
  have hb:=ud y
  have g:=(z1 W.1.size W).alloc (G _) (.cells #[I J x.1.t,I J x.1.se,I J x.1.wn,I J x.2.st,I J x.2.cl.cnt,I J x.2.cl.sum,I H x.2.cl.mn,I H x.2.cl.mx] 148)
  have a7:z0 w.1.size w w3:=(hb.alloc hb.size _).grown z (by have:=hb.size;rw[zG];omega) (fun k e=>((ud a).lt k e).1)
  refine⟨((zw g).trans hk.1).trans ((KeepsOthers.setCell w3 ⟨w.1.size,0,O⟩ _).from _),((KeepsWalks.alloc _ _).trans hk.2).trans (KeepsWalks.setCell _ _ _),?_⟩
  exact⟨_,xi (i:=0) (ud Q) _,zg m (zq (f:=fun k=>k=w.1.size) (zk.refl _ _) rfl) (fun k a8 e=>zx (ud Q) m (by decide) k a8 e),a7.setCell (p:=⟨w.1.size,0,O⟩) (G _) _⟩
 case done=>
  rintro D xs W hD hS ⟨v,L,i2,i3⟩ P
  obtain⟨va,vc,rfl⟩:=zm i2
  obtain⟨c2,-⟩:=zc L
  have a:=zd i2
  have y:=zd i3
  clear L i2 i3
  gi_wp2
  refine⟨by simp,.inl ⟨_,_,rfl,run_takeDeferred P,?_⟩⟩
  exact⟨_,results_tmp rfl _ _ _,xs,_,hS,rfl,Q6 (ud a) (grownBy_putObj' _ _ _) (fun r e=>by cases e;exact⟨_,P,rfl⟩),xE (ud y) (G _) (by omega) P _⟩
 case stop=>
  rintro D c d W _ _ h _
  exact h.elim
theorem Vz(gf:Nat)(lb:Array T)(b:∀args w,(callFunc gf args).run prog w=.ok (.enter gf args) w){N:Nat}{S:List SX->Prop}(w:U)(j:N<=1000000)
  (a:Yl Fence.wide 6 prog gf lb (fun x:SX=>#[.agg #[I J x.1.t,I J x.1.se,I J x.1.wn,I J x.2.st,I J x.2.cl.cnt,I J x.2.cl.sum,I H x.2.cl.mn,I H x.2.cl.mx]]) KeepsWalks S (fun _=>True) N 0 w):
  Calls prog 208 #[.func (.func gf) #[] lb] w fun e w'=>∃xs v,S xs/\e=.returned v/\jG w' w.1.size v xs/\z0 w.1.size w w':=by
 have h:=zd (zci gf lb b w j a)
 clear a b
 go_enter func208,ntmps208
 go_wp2_with(go_at_call 245;refine(ud h).mono ?_;rintro e k ⟨xs,v,c,rfl,f,d⟩;have i:=zd c;have HR:=zd f;have g:=zd d;clear c f d)
 go_ret
 exact⟨xs,v,ud i,rfl,ud HR,ud g⟩
def zgO(x y:Sg):Int:=orL [jk x.t y.t,jk x.se y.se,jk x.wn y.wn]
theorem zdp(x y:Sg)(w:U):Calls prog 166 #[.agg #[I J x.t,I J x.se,I J x.wn],.agg #[I J y.t,I J y.se,I J y.wn]] w fun e w'=>e=.returned (I J (zgO x y))/\Dr.Below w.1.size w w':=by
 obtain⟨i,j,g,r⟩:=Dr.box2 w (.cells #[I J x.t,I J x.se,I J x.wn] 146) (.cells #[I J y.t,I J y.se,I J y.wn] 146)
 obtain⟨Y,f⟩:∃Y,((w.alloc (.cells #[I J x.t,I J x.se,I J x.wn] 146)).alloc (.cells #[I J y.t,I J y.se,I J y.wn] 146))=Y:=⟨_,rfl⟩
 rw[f]at i j g r
 obtain⟨P,Q,R,-⟩:=zc i
 obtain⟨S,X,Z,-⟩:=zc j
 have m:=fun(a b:Int) W=>zd (KA a b W)
 have d:∀W:U,W.1[Y.1.size]?=E (.cells #[I J (jk x.t y.t),I J (jk x.se y.se),I J (jk x.wn y.wn)] 3)->Hid (Calls prog 163 #[.slice (E ⟨Y.1.size,0,O⟩) 3 3] W fun e w'=>e=.returned (I J (zgO x y))/\w'=W):=fun W z=>
  zkb [jk x.t y.t,jk x.se y.se,jk x.wn y.wn] (by simp) W Y.1.size (fun k v c=>by
   rw[xd z]
   match k,c with
   |0,c=>simp at c;subst c;rfl
   |1,c=>simp at c;subst c;rfl
   |2,c=>simp at c;subst c;rfl)
 have n:=d (Y.alloc (.cells #[I J (jk x.t y.t),I J (jk x.se y.se),I J (jk x.wn y.wn)] 3)) (zr _ _)
 have o:=d (Y.alloc (.cells #[I J (jk x.t y.t),I J (jk x.se y.se),I J (jk x.wn y.wn)] 3)).drew (zr _ _)
 have p:=d (Y.drew.alloc (.cells #[I J (jk x.t y.t),I J (jk x.se y.se),I J (jk x.wn y.wn)] 3)) (zr Y.drew _)
 have D:=zb i
 have F:=zb j
 have l:=zd g
 have q:=zd f
 clear i j d g f r
 generalize h:zgO x y=K at*
 have u:=zd h
 clear h
 generalize A:jk x.t y.t=L at*
 generalize B:jk x.se y.se=M at*
 generalize C:jk x.wn y.wn=N at*
 go_enter func166,ntmps166
 go_wp2_with fail
 rw[ud q]
 go_region_held3 (fun w'=>w'.cell? ⟨w.1.size,0,O⟩=E (I J x.t)/\w'.cell? ⟨w.1.size,1,O⟩=E (I J x.se)/\w'.cell? ⟨w.1.size,2,O⟩=E (I J x.wn)/\w'.cell? ⟨w.1.size+1,0,O⟩=E (I J y.t)/\w'.cell? ⟨w.1.size+1,1,O⟩=E (I J y.se)/\w'.cell? ⟨w.1.size+1,2,O⟩=E (I J y.wn)) (go_keep) (first
  |(go_at_call 162;(with_reducible refine(ud (m _ _ _)).mono ?_);rintro e V ⟨rfl,rfl⟩)
  |(go_at_call 163;(first|(with_reducible refine(ud n).mono ?_)|(with_reducible refine(ud o).mono ?_)|(with_reducible refine(ud p).mono ?_));rintro e V ⟨rfl,rfl⟩))
 go_wp2_with fail
 go_ret
 have s:=ud l
 exact⟨rfl,(s.alloc s.size _).drew⟩
theorem zga(x y:SX)(w:U):Calls prog 210 #[.agg #[I J x.1.t,I J x.1.se,I J x.1.wn,I J x.2.st,I J x.2.cl.cnt,I J x.2.cl.sum,I H x.2.cl.mn,I H x.2.cl.mx],.agg #[I J y.1.t,I J y.1.se,I J y.1.wn,I J y.2.st,I J y.2.cl.cnt,I J y.2.cl.sum,I H y.2.cl.mn,I H y.2.cl.mx]] w fun e w'=>e=.returned (I J (zgO x.1 y.1))/\Dr.Below w.1.size w w':=by
 obtain⟨d,f,b,h⟩:=Dr.box2 w (.cells #[I J x.1.t,I J x.1.se,I J x.1.wn,I J x.2.st,I J x.2.cl.cnt,I J x.2.cl.sum,I H x.2.cl.mn,I H x.2.cl.mx] 148) (.cells #[I J y.1.t,I J y.1.se,I J y.1.wn,I J y.2.st,I J y.2.cl.cnt,I J y.2.cl.sum,I H y.2.cl.mn,I H y.2.cl.mx] 148)
 obtain⟨Y,a⟩:∃Y,((w.alloc (.cells #[I J x.1.t,I J x.1.se,I J x.1.wn,I J x.2.st,I J x.2.cl.cnt,I J x.2.cl.sum,I H x.2.cl.mn,I H x.2.cl.mx] 148)).alloc (.cells #[I J y.1.t,I J y.1.se,I J y.1.wn,I J y.2.st,I J y.2.cl.cnt,I J y.2.cl.sum,I H y.2.cl.mn,I H y.2.cl.mx] 148))=Y:=⟨_,rfl⟩
 rw[a]at d f b h
 obtain⟨n,o,p,-⟩:=zc d
 obtain⟨q,r,s,-⟩:=zc f
 have j:=zd (zdp x.1 y.1 Y)
 have l:=zb d
 have m:=zb f
 have c:=zd b
 have g:=zd a
 clear d f b a h
 go_enter func210,ntmps210
 go_wp2_with fail
 rw[ud g]
 go_wp2_with(go_at_call 166;refine(ud j).mono ?_;rintro e V ⟨rfl,i⟩;have k:=zd i;clear i)
 go_ret
 exact⟨rfl,(ud c).trans ((ud k).mono (ud c).size)⟩
theorem zaq(x y:Sg):zgO x y<0↔(x.t<y.t\/x.t=y.t/\(x.se<y.se\/x.se=y.se/\x.wn<y.wn)):=by
 unfold zgO
 simp only[orL,jk]
 repeat' split
 all_goals omega
theorem zgP:Go.Sort.SWO (fun x y:SX=>decide (zgO x.1 y.1<0)) where
 irrefl x:=by simp only[decide_eq_false_iff_not,zaq];omega
 trans x y z h1 h2:=by simp only[decide_eq_true_eq,zaq]at*;omega
 ntrans x y z h1 h2:=by simp only[decide_eq_false_iff_not,zaq]at*;omega
def XAt(w:U)(g j:Nat)(x:SX):Prop:=
  w.cell? ⟨g,j*8,O⟩=E (I J x.1.t)/\w.cell? ⟨g,j*8+1,O⟩=E (I J x.1.se)/\w.cell? ⟨g,j*8+2,O⟩=E (I J x.1.wn)/\w.cell? ⟨g,j*8+3,O⟩=E (I J x.2.st)/\
  w.cell? ⟨g,j*8+4,O⟩=E (I J x.2.cl.cnt)/\w.cell? ⟨g,j*8+5,O⟩=E (I J x.2.cl.sum)/\w.cell? ⟨g,j*8+6,O⟩=E (I H x.2.cl.mn)/\w.cell? ⟨g,j*8+7,O⟩=E (I H x.2.cl.mx)
def SRd(w:U)(v:T)(xs:List SX):Prop:=∃a cap,v=.slice a xs.length cap/\(0<xs.length->∃g,a=E ⟨g,0,O⟩/\g<w.1.size/\∀j x,xs[j]?=E x->XAt w g j x)
theorem jG.rd{w:U}{base:Nat}{v:T}{xs:List SX}(h:jG w base v xs):SRd w v xs:=by
 obtain⟨a,cap,rfl⟩:=h.slice
 refine⟨a,cap,rfl,fun b=>?_⟩
 obtain⟨g,rfl,-,c⟩:=h.form b
 exact⟨g,rfl,c,fun j x d=>h.at d⟩
theorem XAt.later{w w':U}{g j:Nat}{x:SX}(h:XAt w g j x)(n:z0 w.1.size w w')(o:g<w.1.size):XAt w' g j x:=by
 obtain⟨a,b,c,d,f,k,l,m⟩:=h
 have e:=fun i=>n.cell (p:=⟨g,i,O⟩) o
 exact⟨(e _).trans a,(e _).trans b,(e _).trans c,(e _).trans d,(e _).trans f,(e _).trans k,(e _).trans l,(e _).trans m⟩
theorem SRd.later{w w':U}{v:T}{xs:List SX}(h:SRd w v xs)(b:z0 w.1.size w w'):SRd w' v xs:=by
 obtain⟨a,cap,e,h⟩:=h
 refine⟨a,cap,e,fun f=>?_⟩
 obtain⟨g,d,c,k⟩:=h f
 exact⟨g,d,z9 c b.size,fun j x i=>(k j x i).later b c⟩
theorem SRd.slice{w:U}{v:T}{xs:List SX}(h:SRd w v xs):∃a cap,v=.slice a xs.length cap:=by
 obtain⟨a,cap,e,-⟩:=h;exact⟨a,cap,e⟩
theorem SRd.form{w:U}{a:Option Addr}{n cap:Nat}{xs:List SX}(h:SRd w (.slice a n cap) xs)(i:0<xs.length):∃g,a=E ⟨g,0,O⟩/\n=xs.length/\g<w.1.size/\∀j x,xs[j]?=E x->XAt w g j x:=by
 obtain⟨m,b,e,h⟩:=h
 obtain⟨g,c,k,l⟩:=h i
 injection e with d f o
 exact⟨g,d.trans c,f,k,l⟩
theorem zdP(B g:Nat)(a b c d:Int)(p:∀m∈[a,b,c,d],xR m)(l:T)(j:List UInt8)(w:U)(h:Vo w B l j)(k:B<=w.1.size)(f:j.length<=70368744177664)(i:zkp B w)
  (o:w.1[g]?=E (.cells #[I J a,I J b,I J c,I J d] 2 (0,0))):
  Calls prog 168 #[l,.slice (E ⟨g,0,O⟩) 4 4] w fun e w'=>∃n,e=.returned n/\Vo w' B n (j++vw [a,b,c,d])/\z0 B w w'/\Lib.OthersKept 5 O w w':=
 zch B g [a,b,c,d] p (by simp) l j w h k f i o
theorem Js{w w':U}(h:Lib.TabIs prog w "internal/strconv.uint64pow10" .u64 Lib.pow10Tab)(a:z0 w.1.size w w'):Lib.TabIs prog w' "internal/strconv.uint64pow10" .u64 Lib.pow10Tab:=Lib.tabBelow_of_tabIs h _ a
theorem Vo.alloc{w:U}{B:Nat}{v:T}{a:List UInt8}(h:Vo w B v a)(o:Obj):Vo (w.alloc o) B v a:=World.ownsRow.alloc h o
theorem JE(now:Int)(C:xR now)(xs:List SX)(K:∀x∈xs,okX x)(au:xs.length<=100000000)(v:T)(w:U)(hv:SRd w v xs)(F:Lib.TabIs prog w "internal/strconv.uint64pow10" .u64 Lib.pow10Tab):
  Calls prog 108 #[.agg #[I J now,v]] w fun e w'=>e=.returned (.string ⟨(JJ now xs).toArray⟩)/\z0 w.1.size w w':=by
 obtain⟨ad,cap,rfl⟩:=hv.slice
 have a:z0 w.1.size w (w.alloc (.cells #[I J now,.slice ad xs.length cap] 190)):=(z1 _ _).alloc (G _) _
 have u:=zr w (.cells #[I J now,.slice ad xs.length cap] 190)
 have ae:=zG w (.cells #[I J now,.slice ad xs.length cap] 190)
 have D:=fun k=>ZK C (xs:=xs.take k) (fun x h=>K x (List.mem_of_mem_take h))
 have b:=hv.later a
 have y:=Lib.tabBelow_of_tabIs (Js F a)
 obtain⟨X,hX⟩:∃X,(w.alloc (.cells #[I J now,.slice ad xs.length cap] 190))=X:=⟨_,rfl⟩
 rw[hX]at a u ae b y
 obtain⟨k0,-⟩:=zc u
 have N:=zd (Vu X.1.size 0 now C (.slice O 0 0) [] X (World.ownsRow_nil _ _ _ _) (G _) (by omega) y)
 have al:=zd hX
 have a1:=zd a
 have ah:=zd u
 have ak:=zd b
 have a5:=zd y
 have aj:=zd K
 have a4:=zd D
 have ar:w.1.size<X.1.size:=by omega
 clear hX a u b y K D hv F ae
 go_enter func108,ntmps108
 go_wp2_with fail
 rw[ud al]
 go_wp2_with(go_at_call 167;refine(ud N).mono ?_;rintro e W ⟨v0,rfl,q,V,-⟩;have c1:W.cell? ⟨w.1.size,1,O⟩=E (.slice ad xs.length cap):=(V.cell (p:=⟨w.1.size,1,O⟩) ar).trans (by rw[xd (ud ah)];rfl))
 have HO:=zd q
 have af:=zd V
 clear q V c1 k0
 go_loopw [3,12] (fun v i wr=>∃k:Nat,k<=xs.length/\i=I J k/\Vo wr X.1.size v (JJ now (xs.take k))/\z0 X.1.size X wr) (fun _ i _=>xs.length-(intOf i).toNat)
 case atStart=>exact⟨0,za _,rfl,by
  have h:=ud HO
  rw[Nat.zero_add,List.nil_append]at h
  have e:JJ now (xs.take 0)=Lib.itoa now:=by simp[JJ]
  rw[e];exact h,ud af⟩
 case round=>
  obtain⟨k,hk,rfl,hv,hb⟩:=hrel
  have ap:=hb.size
  have hr:=ud a4 k
  rw[List.length_take]at hr
  by_cases aq:k<xs.length
  ·obtain⟨x,K⟩:=zhG aq
   have o:=ud aj x (List.mem_of_getElem? K)
   have ac:=(ud ak).later hb
   obtain⟨g,rfl,-,ay,a8⟩:=ac.form (by omega)
   obtain⟨x0,x1,x2,x3,x4,x5,x6,x7⟩:=a8 k x K
   clear a8
   have az:(k:Int)<xs.length:=by omega
   obtain⟨aA,aB⟩:=o.mn
   obtain⟨aC,aD⟩:=o.mx
   have m:=o.seg
   have B:=o.cel
   unfold zhO at m
   unfold zif at B
   obtain⟨Y,hY⟩:∃Y,(wr.alloc (.cells #[I J x.1.t,I J x.1.se,I J x.1.wn,I J x.2.st,I J x.2.cl.cnt,I J x.2.cl.sum,I H x.2.cl.mn,I H x.2.cl.mx] 148))=Y:=⟨_,rfl⟩
   have Z:z0 X.1.size X Y:=by rw[<-hY];exact hb.alloc ap _
   have S:Y.1[wr.1.size]?=E (.cells #[I J x.1.t,I J x.1.se,I J x.1.wn,I J x.2.st,I J x.2.cl.cnt,I J x.2.cl.sum,I H x.2.cl.mn,I H x.2.cl.mx] 148 (0,0)):=by rw[<-hY];exact zr _ _
   have ao:Y.1.size=wr.1.size+1:=by rw[<-hY];exact zG _ _
   have z:=Vo.alloc hv (.cells #[I J x.1.t,I J x.1.se,I J x.1.wn,I J x.2.st,I J x.2.cl.cnt,I J x.2.cl.sum,I H x.2.cl.mn,I H x.2.cl.mx] 148)
   rw[hY]at z
   obtain⟨zs,a0⟩:∃zs,JJ now (xs.take k)=zs:=⟨_,rfl⟩
   rw[a0]at z hr
   have HZ:=zd a0
   have HX:=zd K
   have aF:zs.length<=20000000000:=by omega
   obtain⟨y0,y1,y2,y3,y4,y5,y6,y7,-⟩:=zc S
   obtain⟨n0,s,a7⟩:∃n0:Nat,z0 X.1.size X (Y.alloc (.cells #[I J x.1.t,I J x.1.se,I J x.1.wn,I J x.2.st] 2))/\(Y.alloc (.cells #[I J x.1.t,I J x.1.se,I J x.1.wn,I J x.2.st] 2)).1[Y.1.size]?=E (.cells #[I J x.1.t,I J x.1.se,I J x.1.wn,I J x.2.st] 2 (0,0)):=⟨0,Z.alloc Z.size _,zr _ _⟩
   have M:=zd (zdP X.1.size Y.1.size x.1.t x.1.se x.1.wn x.2.st m _ zs _ (Vo.alloc z _) (Nat.le_trans s.size (G _)) (by omega) ((ud a5).on s) a7)
   have ai:=zd (vX [x.1.t,x.1.se,x.1.wn,x.2.st] m)
   have r:=zd S
   have a6:=zd hY
   have a2:=zd s
   have an:=zd ao
   clear hb hv ac o hY Z S z a0 K s a7 m
   rw[ud an]at M
   cases hc:KI x.2.st
   ·have Q:Hid (∀W:U,Calls prog 169 #[I J x.2.st] W fun e w'=>e=.returned (.bool false)/\w'=W):=fun W=>by rw[<-hc];exact Qw _ W
    go_wp2_with fail
    rw[ud a6]
    go_wp2_with(first
     |(go_at_call 168;refine(ud M).mono ?_;rintro e W1 ⟨v1,rfl,b,a,d⟩;have h1:=d wr.1.size _ ((Below.heap_alloc _ _ _ (zb (ud r))).trans (ud r)) (by simp) (fun c fz e=>by cases e);obtain⟨-,-,-,z3,-⟩:=zc h1;have R:=zd b;have L:=zd a;clear b a d h1)
     |(go_at_call 169;refine(ud Q _).mono ?_;rintro e w2 ⟨rfl,rfl⟩))
    go_roundw
    case rel=>
     refine⟨k+1,by omega,by go_num,?_,(ud a2).trans (ud L)⟩
     have e:JJ now (xs.take (k+1))=zs++vw [x.1.t,x.1.se,x.1.wn,x.2.st]:=by
      rw[ZP (ud HX),Jc,ud HZ];simp[ziU,hc,zhO]
     rw[e];exact ud R
    case measure=>simp[intOf];omega
   ·have Q:Hid (∀W:U,Calls prog 169 #[I J x.2.st] W fun e w'=>e=.returned (.bool true)/\w'=W):=fun W=>by rw[<-hc];exact Qw _ W
    go_wp2_with fail
    rw[ud a6]
    go_wp2_with(first
     |(go_at_call 168;refine(ud M).mono ?_;rintro e W1 ⟨v1,rfl,b,a,d⟩;have h1:=d wr.1.size _ ((Below.heap_alloc _ _ _ (zb (ud r))).trans (ud r)) (by simp) (fun c fz e=>by cases e);refine Hid.out ?_)
     |fail)
    refine Lib.hid ?_
    obtain⟨-,-,-,z3,z4,z5,z6,z7,-⟩:=zc h1
    have n:=(ud a2).trans a
    have aa:=ud ai
    obtain⟨ys,A⟩:∃ys,zs++vw [x.1.t,x.1.se,x.1.wn,x.2.st]=ys:=⟨_,rfl⟩
    have aG:ys.length<=30000000000:=by rw[<-A,List.length_append];simp only[List.length_cons,List.length_nil]at aa;omega
    rw[A]at b
    have am:=zd A
    have f:z0 X.1.size X (W1.alloc (.cells #[I J x.2.cl.cnt,I J x.2.cl.sum,I J x.2.cl.mn,I J x.2.cl.mx] 2)):=n.alloc n.size _
    have ag:=zd (zdP X.1.size W1.1.size x.2.cl.cnt x.2.cl.sum x.2.cl.mn x.2.cl.mx B v1 ys _ (Vo.alloc b _) f.size (by omega) ((ud a5).on f) (zr _ _))
    have a3:=zd f
    clear h1 a d b n aa A f
    go_wp2_with(first
     |(go_at_call 169;refine(ud Q _).mono ?_;rintro e w2 ⟨rfl,rfl⟩)
     |(go_at_call 168;refine(ud ag).mono ?_;rintro e W2 ⟨v2,rfl,ab,a9,-⟩;have R:=zd ab;have L:=zd a9;clear ab a9))
    go_roundw
    case rel=>
     refine⟨k+1,by omega,by go_num,?_,(ud a3).trans (ud L)⟩
     have e:JJ now (xs.take (k+1))=ys++vw [x.2.cl.cnt,x.2.cl.sum,x.2.cl.mn,x.2.cl.mx]:=by
      rw[ZP (ud HX),Jc,ud HZ,<-ud am];simp[ziU,hc,zhO,zif]
     rw[e];exact ud R
    case measure=>simp[intOf];omega
  ·obtain rfl:k=xs.length:=by omega
   rw[List.take_length]at hv
   have aE:decide ((xs.length:Int)<xs.length)=false:=by simp
   obtain⟨l,hl⟩:∃l,JJ now xs=l:=⟨_,rfl⟩
   rw[hl]at hv
   have av:0<l.length:=by rw[<-hl];unfold JJ;rw[List.length_append];have:=zgt now;omega
   have HL:=zd hl
   have HB:=zd ((ud a1).trans (hb.mono (ud a1).size))
   clear hb hl hr
   rcases hv.2 with⟨-,h0⟩|⟨g,cp,aw,rfl,-⟩
   ·omega
   ·have ax:=run_convert_bytes_back (P:=prog) wr 250 9 5 ⟨g,0,O⟩ cp l underlying250 underlying5 underlying9 (fun j hj=>World.ownsRow.cells hv (g:=g) rfl j _ (by simp[Lib.byteCells,hj]))
    clear hv
    go_wp2_with fail
    go_ret
    rw[ud HL]
    exact⟨rfl,ud HB⟩
end Go.Proofs.YtndhpgciopcncaaGreatDoor
namespace Go.Proofs.YtndhpgciopcncaaGreatDoor
open Go.ChangeMaps (setBlock)
open Go.RowKit Go.Maps Go.Shelf Go.Sort
theorem zht{α:Type}[Inhabited α](enc:α->List T)(k:Nat)(w:U)(a b n:Nat)(d:Array α)(os:Array Obj):zk (fun j=>j=a) w (sortWorldK enc k w a b n d os) where
 os:=rfl
 tape:=rfl
 output:=rfl
 size:=size_sortWorldK_c enc k w a b n d os
 block j hj hn:=by
  unfold sortWorldK putRowK
  rw[heap_grow_old _ _ (by rw[size_putRow];exact hj)]
  unfold putRow mapBlock
  show((Sort.ahead w n).heap.modify a _)[j]?=_
  rw[Array.getElem?_modify,if_neg (fun e=>hn e.symm)]
  rfl
theorem zil:∀args w,(callFunc 210 args).run prog w=.ok (.enter 210 args) w:=enters_of func210 (by kernel_rfl) rfl
theorem Ze(x:SX):(xh x).length=8:=rfl
theorem zjg(a b size:Nat)(w:U):CmpLays prog 210 #[] xh 8 (fun x y:SX=>zgO x.1 y.1) a b size w:=
 fun m os f g x y=>(zga x y _).mono fun e w' ⟨d,c⟩=>⟨d,c.lays⟩
theorem zhm(a cap:Nat)(xs:List SX)(w:U)(i:HoldsK xh 8 w a 0 xs.toArray)(c:a<w.1.size)(g:xs.length<4611686018427387904):
  Calls prog 209 #[.slice (E ⟨a,0,O⟩) xs.length cap,.func (.func 210) #[] #[]] w fun e w'=>e=.returned (.tuple #[])/\∃m:List SX,m.Perm xs/\HoldsK xh 8 w' a 0 m.toArray/\zk (fun j=>j=a) w w':=by
 have f:=AnyQ.slices_SortFunc Tryz.sortSeg 8 Tryz.isAgg148 Tryz.sizeOf148 xh Ze vC (fun x y:SX=>zgO x.1 y.1) zgP 210 #[] a 0 cap xs.toArray w zil (zjg a 0 _ w) i c (by simpa using g)
 have b:Calls prog 209 #[.slice (E ⟨a,0,O⟩) xs.toArray.size cap,.func (.func 210) #[] #[]] w _:=f
 rw[List.size_toArray]at b
 refine b.mono ?_
 rintro e w' ⟨rfl,d,n,os,⟨l,_,k⟩,q,rfl⟩
 have h:d.size=xs.length:=by rw[l,List.size_toArray]
 refine⟨rfl,d.toList,?_,?_,zht _ _ _ _ _ _ _ _⟩
 ·have o:d.extract 0 xs.length=d:=by rw[<-h];exact Array.extract_size
  have p:xs.toArray.extract 0 xs.length=xs.toArray:=by simp
  rw[o,p]at k
  exact k
 ·have:=holdsK_sortWorldK_c xh 8 w a 0 xs.toArray d n os i c l
  simpa using this
theorem zjb(a:Option Addr)(cap:Nat)(w:U):
  Calls prog 209 #[.slice a 0 cap,.func (.func 210) #[] #[]] w fun e w'=>e=.returned (.tuple #[])/\w'=w:=
 AnyF.slices_SortFunc_none (P:=prog) Tryz.sortSeg a cap (.func (.func 210) #[] #[]) w
theorem zgm{w:U}{base g cap:Nat}{xs:List SX}(h:jG w base (.slice (E ⟨g,0,O⟩) xs.length cap) xs):HoldsK xh 8 w g 0 xs.toArray:=fun j d=>by
 have a:j<xs.length*8:=by simpa[size_flatK]using d
 rw[Nat.zero_add]
 refine⟨?_,World.ownsRow.frozenAt h j⟩
 rw[World.ownsRow.cellAt h j a,get_flatK _ _ _ _ (by simpa using a)]
 have c:j/8<xs.length:=by omega
 have:=qw Ze xs (j/8) xs[j/8] (j%8) (by simp[c]) (by omega)
 rw[show j/8*8+j%8=j by omega]at this
 rw[this,getElem!_pos xs.toArray (j/8) (by simpa using c)]
 have b:j%8<(xh xs[j/8]).length:=by rw[Ze];omega
 simp only[id,List.getElem_toArray]
 rw[getElem!_pos (xh xs[j/8]) (j%8) b,List.getElem?_eq_getElem b]
theorem zgl{w:U}{g:Nat}{xs:List SX}(h:HoldsK xh 8 w g 0 xs.toArray){j:Nat}{x:SX}(f:xs[j]?=E x):XAt w g j x:=by
 obtain⟨d,ex⟩:=List.getElem?_eq_some_iff.1 f
 have key:∀(i:Nat) (v:T),i<8->(xh x)[i]?=E v->w.cell? ⟨g,j*8+i,O⟩=E v:=fun i v k hv=>by
  have a:j*8+i<xs.length*8:=by omega
  obtain⟨b,-⟩:=h (j*8+i) (by simpa[size_flatK]using a)
  rw[Nat.zero_add]at b
  rw[b,get_flatK _ _ _ _ (by simpa using a)]
  rw[show(j*8+i)/8=j by omega,show(j*8+i)%8=i by omega,getElem!_pos xs.toArray j (by simpa using d)]
  simp only[id,List.getElem_toArray,ex]
  obtain⟨e,c⟩:=List.getElem?_eq_some_iff.1 hv
  rw[getElem!_pos (xh x) i e,c]
 exact⟨key 0 _ (by omega) rfl,key 1 _ (by omega) rfl,key 2 _ (by omega) rfl,key 3 _ (by omega) rfl,key 4 _ (by omega) rfl,key 5 _ (by omega) rfl,key 6 _ (by omega) rfl,key 7 _ (by omega) rfl⟩
theorem Tryz.infoSeg:(prog.info? 148).map (fun i=>(i.zero,i.size,i.bytes))=E (E (.agg #[I J 0,I J 0,I J 0,I J 0,I J 0,I J 0,I H 0,I H 0]),8,56):=by kernel_rfl
theorem ziP{w:U}{ops:Array Oper}{rest:List Oper}{o:Oper}{a:Act}{Q:Exit->Act->U->Prop}(e:o.guard=O)(s x:Operand)
  (m:o.op=.call {callee:=.builtin .append,args:=#[s,x],argTypes:=#[105,105]}) (base:Nat) (v:T) (l:List SX) (f:SX) (n:a.eval s=v) (b:jG w base v l)
  (c:Nat) (p:a.eval x=.slice (E ⟨c,0,O⟩) 1 1) (d:w.1[c]?=E (.cells #[I J f.1.t,I J f.1.se,I J f.1.wn,I J f.2.st,I J f.2.cl.cnt,I J f.2.cl.sum,I H f.2.cl.mn,I H f.2.cl.mx] 148 (0,0))) (q:l.length<=1000000000) (hbase:base<=w.1.size)
  (h:∀g cap w',jG w' base (.slice (E ⟨g,0,O⟩) (l.length+1) cap) (l++[f])->w.grownBy w' v.ownBlock->g<w'.1.size->wpList prog ops Q rest (a.put o.dst (.slice (E ⟨g,0,O⟩) (l.length+1) cap)) w'):wpList prog ops Q (o::rest) a w:=
 zJ e s x 105 m base 148 _ 8 56 underlying105 Tryz.infoSeg rfl (by decide) v l.length (l.flatMap xh) n b ⟨c,0,O⟩ 1 1 (xh f) p rfl
  (World.news_of_block (cs:=(xh f).toArray) d) (vC f) (by decide) (by simp only[maxLen];omega) (by omega) hbase
  fun g cap w' i _ j _ k=>h g cap w' (zfD i) j k
def Yt(p:Sg×Unit):SX:=(p.1,⟨4,qC⟩)
def Xq(L:LV)(Gl:List (Sg×Unit)):List SX:=L++Gl.map Yt
theorem jC{w:U}{base:Nat}{v:T}{xs:List SX}(h:jG w base v xs){k:Nat}{o:Obj}(a:w.1[k]?=E o)(d:o.isCells=false):v.ownBlock≠E k:=fun e=>by
 obtain⟨b,c⟩:=zz h e
 rw[c]at a;cases a;cases d
theorem zhY{w:U}{s:Nat}{c:Cf}{tv:T}{lb gb:Nat}{Gl:List (Sg×Unit)}{L:LV}(h:xl w s c tv lb gb Gl L)(aG:L.length<=1000000)(aL:Gl.length<=100000000):
  Calls prog 134 #[.pointer (E ⟨s,0,O⟩)] w fun e w'=>∃xs v,xs.Perm (Xq L Gl)/\e=.returned v/\SRd w' v xs/\z0 w.1.size w w':=by
 obtain⟨Y,b,a6,ak⟩:=h.gone
 obtain⟨-,-,-,-,-,-,-,c7,c8⟩:=h.cells
 have aq:=h.lt
 have a4:z0 w.1.size w (w.alloc (.cells #[.map (E lb)] 152)):=(z1 _ _).alloc (G _) _
 have au:=zG w (.cells #[.map (E lb)] 152)
 have HV:=zd (KK lb w)
 have HC:=zd (Vz _ _ zad (w.alloc (.cells #[.map (E lb)] 152)) aG (zgu w.1.size lb L _ (by rw[au];omega) (by rw[xd (zr _ _)];rfl) (xO.1 (h.later a4).live)))
 have a7:=zb a6
 have ae:=zd a6
 have o:=zd ak
 have ab:=zd a4
 clear h a6 ak a4
 go_enter func134,ntmps134
 go_wp2_with(first
  |(go_at_call 88;refine(ud HV).mono ?_;rintro e w1 ⟨rfl,rfl⟩)
  |(go_at_call 208;refine(ud HC).mono ?_;rintro e l ⟨z,v0,am,rfl,ao,ah⟩;have f:z0 w.1.size w l:=(ud ab).trans (ah.mono (ud ab).size);have d8:l.cell? ⟨s,8,O⟩=E (.map (E gb)):=(f.cell (p:=⟨s,8,O⟩) aq).trans c8;have S:=run_range_map (P:=prog) l 153 _ _ gb Y b underlying153 ((f.block _ a7).trans (ud ae));have aJ:s<l.1.size:=z9 aq f.size;have af:=zd am;have ay:=zd ao;have aa:=zd f;clear am ao f ah))
 go_loopw [3] (fun v wr=>∃(d:Array Nat) (c0:Nat) (ps:List MapEntry),wr.1[l.1.size]?=E (.mapIter (E gb) b d c0)/\b<=c0/\wr.1[gb]?=E (.map Y b)/\zdF Y d ps/\jG wr w.1.size v (z++(ps.map (jn vf Gl)).map Yt)/\z0 w.1.size w wr)
  (fun _ wr=>QK Y l.1.size wr)
 case atStart=>
  have f:=ud aa
  have ai:z0 l.1.size l (l.alloc (.mapIter (E gb) b #[] b)):=(z1 _ _).alloc (G _) _
  exact⟨#[],b,[],zr _ _,G _,(ai.block _ (z9 a7 f.size)).trans ((f.block _ a7).trans (ud ae)),⟨by simp,by simp,by simp⟩,by
   have:=zM (yF (b':=w.1.size) (ud ay) (by rw[au];omega)) ai
   simpa[jG]using this,f.alloc f.size _⟩
 case round=>
  obtain⟨d,c0,ps,hr,aE,R,hC,hv,Z⟩:=hrel
  have aM:=zb hr
  have aN:=(ud aa).size
  clear S d8 HC HV
  rcases run_next_at (P:=prog) wr 0 l.1.size gb b c0 d Y b hr R (ud o).born aE with⟨hz,m⟩|⟨e,Q,w1,V,m⟩
  ·have n:(z++(ps.map (jn vf Gl)).map Yt).Perm (Xq L Gl):=(ud af).append ((XX Z3 (ud o) (hC.all (ud o).once hz)).map Yt)
   generalize z++(ps.map (jn vf Gl)).map Yt=xs at*
   have a0:xs.length<=200000000:=by rw[n.length_eq];unfold Xq;rw[List.length_append,List.length_map];omega
   obtain⟨a,cap,rfl⟩:=hv.slice
   have ag:=zd n
   have HB:=zd Z
   clear hz hC R n Z
   by_cases h0:xs.length=0
   ·have al:xs=[]:=List.length_eq_zero_iff.1 h0
    subst al
    have az:=zd (zjb a cap wr)
    clear hv
    go_wp2_with(go_at_call 209;refine(ud az).mono ?_;rintro e W ⟨rfl,rfl⟩)
    go_ret
    exact⟨[],_,ud ag,rfl,⟨_,_,rfl,fun h=>absurd h (by simp)⟩,ud HB⟩
   ·obtain⟨g,rfl,-,hg⟩:=hv.form (by omega)
    have aK:=(World.ownsRow.lt hv g rfl).1
    have HS:=zd (zhm g cap xs wr (zgm hv) hg (by omega))
    clear hv
    go_wp2_with(go_at_call 209;refine(ud HS).mono ?_;rintro e W ⟨rfl,ys,F,hH,C⟩;have ax:=zd F;have HH:=zd hH;have HK:=zd C;clear F hH C)
    go_ret
    have F:=ud ax
    have C:=ud HK
    have Z:=ud HB
    refine⟨ys,.slice (E ⟨g,0,O⟩) xs.length cap,F.trans (ud ag),rfl,⟨E ⟨g,0,O⟩,cap,by rw[F.length_eq],fun _=>⟨g,rfl,z9 hg C.size,fun j x hx=>zgl (ud HH) hx⟩⟩,Z.trans (C.below Z.size (fun j e=>by omega))⟩
  ·have ad:=zd Q
   obtain⟨a5,-⟩:=xM.1 Q
   have ap:w1.1[l.1.size]?=E (.mapIter (E gb) b d c0):=by rcases V with rfl|rfl<;>exact hr
   have an:w1.1[gb]?=E (.map Y b):=by rcases V with rfl|rfl<;>exact R
   have aH:gb≠l.1.size:=by omega
   obtain⟨X,hX⟩:∃X,setBlock w1 l.1.size (.mapIter (E gb) b (d.push e.born) b)=X:=⟨_,rfl⟩
   have M:X.1[l.1.size]?=E (.mapIter (E gb) b (d.push e.born) b):=by rw[<-hX];exact qO (zb ap) _
   have K:X.1[gb]?=E (.map Y b):=by rw[<-hX,qr aH];exact an
   have a8:zk (fun k=>k=l.1.size) wr X:=by
    rw[<-hX];rcases V with rfl|rfl
    ·exact qT _
    ·exact(zk.refl (fun k=>k=l.1.size) wr).drew.trans (qT _) (fun _ _ h=>h)
   have N:z0 w.1.size w X:=Z.trans (a8.below Z.size (fun j e=>by omega))
   have ar:=zg hv a8 (fun k C e=>jC hv hr rfl (by rw[<-e];exact C))
   rw[hX]at m
   have aj:=run_entry_at (P:=prog) X l.1.size gb b d Y b e M K a5 (ud o).once
   obtain⟨aF,C,i⟩:=VA Z3 (ud o) a5
   obtain⟨⟨k,u⟩,a9⟩:∃y,jn vf Gl e=y:=⟨_,rfl⟩
   have aA:=zd a9
   rw[a9]at C i
   have D:e.key=yO k:=C
   have i:e.val=.agg #[]:=i
   unfold yO at D
   rw[D,i]at m aj
   have aD:=zb M
   obtain⟨y0,y1,A,yz⟩:=box2 X (.cells #[I J k.t,I J k.se,I J k.wn] 146) (.cells #[I J k.t,I J k.se,I J k.wn,I J 4,I J 0,I J 0,I H 0,I H 0] 148)
   have a0:(z++(ps.map (jn vf Gl)).map Yt).length<=1000000000:=by
    have h1:=(ud af).length_eq
    have h2:=hC.lt Q
    have h3:=(ud o).count
    rw[List.length_append,List.length_map,List.length_map];omega
   have a2:=zd (zM ar A)
   have aB:=zd y1
   have r:=zd ((A.block _ aD).trans M)
   have a3:=zd ((A.block _ (zb K)).trans K)
   have ac:=zd (N.trans (A.mono N.size))
   have HC:=zd hC
   have HR:=zd hr
   have aw:=zd N.size
   clear hv Z R hC hr M K a8 N ar ap an hX V Q a5 aF C D i a9 y0 y1 A
   generalize av:z++(ps.map (jn vf Gl)).map Yt=zs at*
   have aC:=zd av
   clear av
   go_wp2_with(first
    |(at_builtin;refine ziP rfl _ _ rfl w.1.size _ zs (Yt (k,u)) rfl (ud a2) (X.1.size+1) rfl (ud aB) a0 (by have:=ud aw;rw[yz];omega) ?_;intro g cap W a1 B aI;have HO:=zd a1;have HG:=zd B;clear a1 B)
    |fail)
   go_roundw
   case rel=>
    have hg:=ud HG
    have hv:=ud a2
    refine⟨d.push e.born,b,ps++[e],(hg.block _ (zb (ud r)) (fun e=>jC hv (ud r) rfl e.symm)).trans (ud r),G _,(hg.block _ (zb (ud a3)) (fun e=>jC hv (ud a3) rfl e.symm)).trans (ud a3),(ud HC).step (ud ad),?_,(ud ac).grown hg (ud ac).size (fun q hq=>(World.ownsRow.lt hv q hq).1)⟩
    have e:z++((ps++[e]).map (jn vf Gl)).map Yt=zs++[Yt (k,u)]:=by
     rw[List.map_append,List.map_append,<-List.append_assoc,ud aC,List.map_singleton,List.map_singleton,ud aA]
    rw[e]
    have h:=ud HO
    unfold jG at h ⊢
    rw[List.length_append,List.length_singleton]at h ⊢
    exact h
   case measure=>
    have hg:=ud HG
    rw[qj ((hg.block _ (zb (ud r)) (fun e=>jC (ud a2) (ud r) rfl e.symm)).trans (ud r)),qj (ud HR)];exact vi (ud ad)
end Go.Proofs.YtndhpgciopcncaaGreatDoor
