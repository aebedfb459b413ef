import Derived.Test.YtndhpgciopcncaaGreatDoorYRefN
open Nat renaming lt_of_lt_of_le → I
open Option renaming none → J
open Go.Value (int)
open Go.IntKind (i64)
set_option linter.unusedVariables false
set_option maxRecDepth 8000
set_option maxHeartbeats 8000000
namespace Go.Proofs.YtndhpgciopcncaaGreatDoor
open Go.RowKit
def Tk.leased(ep num slot till:Int)(x:Tk):Tk:={x with ep:=ep,num:=num,slot:=slot,till:=till}
def zdE:Tk:=⟨0,⟨0,0,0⟩,0,0,0,0,0,0,0⟩
def zkn(k:Int):Tk:=⟨k,⟨0,0,0⟩,0,0,0,0,0,0,0⟩
def MkJ(X:Nat)(w:World)(u:Value)(n:Nat)(k:Int):Prop:=w.ownsRow X 51 11 u n ((List.replicate n (zkn k)).flatMap tkV)
structure Yq(B:Nat)(w:World)(lv:Value)(kn:List Value)(q:Nat):Prop where
 row:w.ownsRow B 55 1 lv kn.length kn
 four:kn.length=4*q
 marks:∀j v,kn[j]?=some v->∃n,n<=1000000/\MkJ B w v n (((j/4:Nat):Int)+10)
theorem zeb(n j:Nat)(m:Tk):(List.replicate n m).flatMap tkV++(List.replicate j m).flatMap tkV=(List.replicate (n+j) m).flatMap tkV:=by
 rw[<-List.flatMap_append,List.replicate_append_replicate]
theorem VE{n i j:Nat}(m:Tk)(a:i<n)(b:j<11):((List.replicate n m).flatMap tkV)[i*11+j]?=(tkV m)[j]?:=qw zaT _ i m j (by simp[a]) b
theorem MkJ.alloc{X:Nat}{w:World}{u:Value}{k:Nat}{m:Int}(h:MkJ X w u k m)(o:Obj):MkJ X (w.alloc o) u k m:=World.ownsRow.alloc h o
theorem MkJ.of{X n j:Nat}{w:World}{v:Value}{m:Int}(h:w.ownsRow X 51 11 v (n+j) ((List.replicate n (zkn m)).flatMap tkV++(List.replicate j (zkn m)).flatMap tkV)):MkJ X w v (n+j) m:=by
 rw[zeb]at h;exact h
section
variable {P:Program}
end
theorem zcz{B:Nat}{w:World}{wb:Nat}{pv lv:Value}{z:List Value}{q:Nat}(X:w.1[wb]?=some (.cells #[pv,lv] 77 (0,0)))(h:Yq B w lv z q)(hq:q<=1099511627776):
  Calls Tryz.prog 35 #[.pointer (some ⟨wb,0,J⟩)] w fun e w'=>e=.returned (.bool true)/\Below w.1.size w w':=by
 obtain⟨an,a0,rfl⟩:=zm h.row
 have h4:=h.four
 have a4:z.length<=4398046511104:=by omega
 have o:=h.row
 have b:=h.marks
 generalize hK:z.length=K at*
 obtain⟨-,c1,-⟩:=zc X
 have f:=zb X
 have g:=zd o
 have E:=zd b
 have D:=zd hK
 clear h X o b h4 hK hq
 go_enter Tryz.func35,Tryz.ntmps35
 go_wp2_with fail
 go_loopw [2,3] (fun _ y wr=>∃(k:Nat),k<=K/\y=int i64 k/\Below w.1.size w wr) (fun _ y _=>K-(intOf y).toNat)
 case atStart=>exact⟨0,Nat.zero_le _,rfl,Below.refl _ _⟩
 case round=>
  obtain⟨k,hk,rfl,l⟩:=hrel
  have cr:=(l.cell (p:=⟨wb,1,J⟩) f).trans c1
  have a7:=I f l.size
  by_cases N:k<K
  ·obtain⟨v,Y⟩:∃v,z[k]?=some v:=⟨_,List.getElem?_eq_getElem (by rw[ud D];exact N)⟩
   obtain⟨n,hn,hv⟩:=ud E k v Y
   obtain⟨H,F,P,-,d⟩:=(ud g).form (by omega)
   injection P with Q R S
   subst Q
   obtain⟨av,s,rfl⟩:=zm hv
   have t:w.cell? ⟨H,k,J⟩=some (.slice av n s):=by rw[(ud g).cellAt _ (by omega)];exact Y
   have d1:=(l.cell (p:=⟨H,k,J⟩) d).trans t
   have a3:=I d l.size
   have u:(k:Int)<K:=by omega
   obtain⟨A,O⟩:∃A:Int,(k:Int)/4+10=A:=⟨_,rfl⟩
   have m:(k:Int)/4=((k/4:Nat):Int):=by omega
   rw[<-m,O]at hv
   have Z:=zd hv
   have C:=zd l
   clear Y R S m hv l
   go_wp2_with fail
   go_loopw [4] (fun y wq=>∃(j:Nat),j<=n/\y=int i64 j/\Below w.1.size w wq) (fun y _=>n-(intOf y).toNat)
   case atStart=>exact⟨0,Nat.zero_le _,rfl,ud C⟩
   case round=>
    obtain⟨j,hj,rfl,a⟩:=hrel
    have cq:=(a.cell (p:=⟨wb,1,J⟩) f).trans c1
    have dq:=(a.cell (p:=⟨H,k,J⟩) d).trans t
    have a6:=I f a.size
    have a2:=I d a.size
    have r:=zd a
    by_cases L:j<n
    ·obtain⟨gv,G,T,-,x⟩:=(ud Z).form (by omega)
     injection T with U V W
     subst U
     have c:∀i,i<11->wr.cell? ⟨gv,j*11+i,J⟩=(tkV (zkn A))[i]?:=fun i hi=>by
      rw[a.cell (p:=⟨gv,j*11+i,J⟩) x,(ud Z).cellAt _ (by omega)]
      exact VE _ L hi
     have d0:wr.cell? ⟨gv,j*11,J⟩=some (int i64 A):=c 0 (by omega)
     have d1:wr.cell? ⟨gv,j*11+1,J⟩=some (int i64 0):=c 1 (by omega)
     have d2:wr.cell? ⟨gv,j*11+2,J⟩=some (int i64 0):=c 2 (by omega)
     have d3:wr.cell? ⟨gv,j*11+3,J⟩=some (int i64 0):=c 3 (by omega)
     have d4:wr.cell? ⟨gv,j*11+4,J⟩=some (int i64 0):=c 4 (by omega)
     have d5:wr.cell? ⟨gv,j*11+5,J⟩=some (int i64 0):=c 5 (by omega)
     have d6:wr.cell? ⟨gv,j*11+6,J⟩=some (int i64 0):=c 6 (by omega)
     have d7:wr.cell? ⟨gv,j*11+7,J⟩=some (int i64 0):=c 7 (by omega)
     have d8:wr.cell? ⟨gv,j*11+8,J⟩=some (int i64 0):=c 8 (by omega)
     have d9:wr.cell? ⟨gv,j*11+9,J⟩=some (int i64 0):=c 9 (by omega)
     have a1:wr.cell? ⟨gv,j*11+10,J⟩=some (int i64 0):=c 10 (by omega)
     have M:(j:Int)<n:=by omega
     have a5:=I x a.size
     clear V W c a
     go_wp2_with fail
     exact⟨⟨j+1,by omega,by go_num,ud r⟩,by simp[intOf];omega⟩
    ·have M:¬(j:Int)<n:=by omega
     clear a
     go_wp2_with fail
     exact⟨⟨k+1,by omega,by go_num,ud r⟩,by simp[intOf];omega⟩
  ·have u:¬(k:Int)<K:=by omega
   have C:=zd l
   clear l
   go_wp2_with fail
   go_ret
   exact⟨rfl,ud C⟩
theorem Yq.later{B:Nat}{w w':World}{c:Value}{b:List Value}{q:Nat}(h:Yq B w c b q)(a:Below w.1.size w w'):Yq B w' c b q:=
 ⟨zg h.row (zk.of_below (f:=fun _=>False) a) (fun _ _ h=>h),h.four,fun j v g=>by
  obtain⟨n,d,e⟩:=h.marks j v g
  exact⟨n,d,zg e (zk.of_below (f:=fun _=>False) a) (fun _ _ h=>h)⟩⟩
theorem Yq.lt{B:Nat}{w:World}{e:Value}{a:List Value}{q:Nat}(h:Yq B w e a q):∀v∈a,∀k,v.ownBlock=some k->k<w.1.size:=fun v hv k d=>by
 obtain⟨j,c⟩:=List.getElem?_of_mem hv
 obtain⟨n,-,b⟩:=h.marks j v c
 exact(World.ownsRow.lt b k d).2
end Go.Proofs.YtndhpgciopcncaaGreatDoor
