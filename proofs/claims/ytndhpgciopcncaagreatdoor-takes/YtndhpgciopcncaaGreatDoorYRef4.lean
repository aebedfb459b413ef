import Derived.Test.YtndhpgciopcncaaGreatDoorYOps0
open Go.Value renaming int → I
open Go.IntKind renaming i64 → J
open Option renaming none → K
open Go.IntKind (i32)
set_option linter.unusedVariables false
set_option maxHeartbeats 1000000
namespace Go.Proofs.YtndhpgciopcncaaGreatDoor
open Go.RowKit
theorem box3(w:World)(a b c:Obj):(((w.alloc a).alloc b).alloc c).1[w.1.size]?=some a/\(((w.alloc a).alloc b).alloc c).1[w.1.size+1]?=some b/\(((w.alloc a).alloc b).alloc c).1[w.1.size+2]?=some c/\Below w.1.size w (((w.alloc a).alloc b).alloc c)/\(((w.alloc a).alloc b).alloc c).1.size=w.1.size+3:=by
 obtain⟨f,g,e,d⟩:=box2 w a b
 refine⟨(Below.heap_alloc _ _ _ (by rw[d];omega)).trans f,(Below.heap_alloc _ _ _ (by rw[d];omega)).trans g,by have:=zr ((w.alloc a).alloc b) c;rw[d]at this;exact this,e.alloc e.size _,by rw[zG,d]⟩
theorem xN{n:Nat}{a w:World}{g i:Nat}{v:Value}(h:Below n a w)(b:n<=g):Below n a (w.setCell ⟨g,i,K⟩ v):=h.setCell (p:=⟨g,i,K⟩) b v
theorem zfu{c:Cf}{s:Sg}{A:Cl}{x:Nm}(h:zt c s.t x=s):qm c s A x=vQ A x.val:=by simp[qm,h]
theorem zdr{c:Cf}{s:Sg}{A:Cl}{x:Nm}(h:¬zt c s.t x=s):qm c s A x=A:=by simp[qm,h]
theorem zdN{A:Cl}{v:Int}(h:A.cnt=0):vQ A v=⟨A.cnt+1,A.sum+v,v,v⟩:=by simp[vQ,h]
theorem zjA{A:Cl}{v:Int}(h:¬A.cnt=0)(a:v<A.mn)(b:A.mx<v):vQ A v=⟨A.cnt+1,A.sum+v,v,v⟩:=by simp[vQ,a,b]
theorem zjB{A:Cl}{v:Int}(h:¬A.cnt=0)(a:v<A.mn)(b:¬A.mx<v):vQ A v=⟨A.cnt+1,A.sum+v,v,A.mx⟩:=by simp[vQ,h,a,b]
theorem zjC{A:Cl}{v:Int}(h:¬A.cnt=0)(a:¬v<A.mn)(b:A.mx<v):vQ A v=⟨A.cnt+1,A.sum+v,A.mn,v⟩:=by simp[vQ,h,a,b]
theorem zjD{A:Cl}{v:Int}(h:¬A.cnt=0)(a:¬v<A.mn)(b:¬A.mx<v):vQ A v=⟨A.cnt+1,A.sum+v,A.mn,A.mx⟩:=by simp[vQ,h,a,b]
theorem ziW{w:World}{g:Nat}{a b c d:Value}{t:TypeId}{e:Nat×Nat}(h:w.1[g]?=some (.cells #[a,b,c,d] t e))(x y z u:Value):((((w.setCell ⟨g,0,K⟩ x).setCell ⟨g,1,K⟩ y).setCell ⟨g,2,K⟩ z).setCell ⟨g,3,K⟩ u).1[g]?=some (.cells #[x,y,z,u] t e):=
 xi (i:=3) (xi (i:=2) (xi (i:=1) (xi (i:=0) h x) y) z) u
def Kz(A:Cl):Obj:=.cells #[I J A.cnt,I J A.sum,I i32 A.mn,I i32 A.mx] 115 (0,0)
theorem zjH{w:World}{g:Nat}{A:Cl}(h:w.1[g]?=some (Kz A))(c s a b:Int):((((w.setCell ⟨g,2,K⟩ (I i32 a)).setCell ⟨g,3,K⟩ (I i32 b)).setCell ⟨g,0,K⟩ (I J c)).setCell ⟨g,1,K⟩ (I J s)).1[g]?=some (Kz ⟨c,s,a,b⟩):=
 xi (i:=1) (xi (i:=0) (xi (i:=3) (xi (i:=2) h (I i32 a)) (I i32 b)) (I J c)) (I J s)
theorem cl_2{w:World}{g:Nat}{A:Cl}(h:w.1[g]?=some (Kz A))(c s a:Int):(((w.setCell ⟨g,2,K⟩ (I i32 a)).setCell ⟨g,0,K⟩ (I J c)).setCell ⟨g,1,K⟩ (I J s)).1[g]?=some (Kz ⟨c,s,a,A.mx⟩):=
 xi (i:=1) (xi (i:=0) (xi (i:=2) h (I i32 a)) (I J c)) (I J s)
theorem cl_3{w:World}{g:Nat}{A:Cl}(h:w.1[g]?=some (Kz A))(c s b:Int):(((w.setCell ⟨g,3,K⟩ (I i32 b)).setCell ⟨g,0,K⟩ (I J c)).setCell ⟨g,1,K⟩ (I J s)).1[g]?=some (Kz ⟨c,s,A.mn,b⟩):=
 xi (i:=1) (xi (i:=0) (xi (i:=3) h (I i32 b)) (I J c)) (I J s)
theorem cl_0{w:World}{g:Nat}{A:Cl}(h:w.1[g]?=some (Kz A))(c s:Int):((w.setCell ⟨g,0,K⟩ (I J c)).setCell ⟨g,1,K⟩ (I J s)).1[g]?=some (Kz ⟨c,s,A.mn,A.mx⟩):=
 xi (i:=1) (xi (i:=0) h (I J c)) (I J s)
theorem zbb{B:Nat}{w:World}{p:Nat}{m:RM}{tv nv pv gv kv:Value}(h:zQ B w p m tv nv pv gv kv)(hc:m.c.ok)(aj:m.nu.length<=1000000000)(M:∀x∈m.nu,x.ok)(s:Sg)(a8: -1<=s.t)(a9:s.t<m.c.n):
  Calls Tryz.prog 217 #[.pointer (some ⟨p,0,K⟩),.agg #[I J s.t,I J s.se,I J s.wn]] w fun e w'=>e=.returned (.agg #[I J (xe m.c s m.nu).cnt,I J (xe m.c s m.nu).sum,I i32 (xe m.c s m.nu).mn,I i32 (xe m.c s m.nu).mx])/\Below w.1.size w w':=by
 obtain⟨b1,b2,b3,Y,bz⟩:=box3 w (.cells #[I J s.t,I J s.se,I J s.wn] 287) (.cells #[I J 0,I J 0,I i32 0,I i32 0] 115) (.cells #[I J 0,I J 0,I i32 0,I i32 0] 115)
 have B1:=zd b1
 have B2:=zd b2
 have B3:=zd b3
 have BZ:=zd bz
 have H:=zd h
 obtain⟨an,cn,a7⟩:=zm h.nrow
 subst a7
 clear h b1 b2 b3 bz
 go_enter Tryz.func217,Tryz.ntmps217
 go_wp2_with fail
 generalize hW:(((w.alloc (.cells #[I J s.t,I J s.se,I J s.wn] 287)).alloc (.cells #[I J 0,I J 0,I i32 0,I i32 0] 115)).alloc (.cells #[I J 0,I J 0,I i32 0,I i32 0] 115))=W at*
 go_loopw [6,7,8] (fun y _ _ wr=>∃(k:Nat),k<=m.nu.length/\y=I J k/\wr.1[w.1.size+2]?=some (Kz (xe m.c s (m.nu.take k)))/\Below (w.1.size+2) W wr) (fun y _ _ _=>m.nu.length-(intOf y).toNat)
 case atStart=>exact⟨0,Nat.zero_le _,rfl,ud B3,Below.refl _ _⟩
 case round=>
  obtain⟨k,hk,rfl,G,R⟩:=hrel
  have r:Below w.1.size w wr:=Y.trans (R.mono (by omega))
  have T:=(ud H).later r
  have ak:=T.lt
  obtain⟨r7,r8,r9,ac,ad,ae,af⟩:=T.rest
  have am:w.1.size+2<wr.1.size:=by have:=R.size;rw[ud BZ]at this;omega
  have ar:w.1.size<wr.1.size:=by omega
  have E:=zd T
  have P:=zd R
  have X:=zd r
  have al:=(ud H).lt
  clear T R r r7 r9 ac ad ae af
  by_cases a6:k<m.nu.length
  ·obtain⟨x,N⟩:=xz a6
   have aa:=M x (List.mem_of_getElem? N)
   obtain⟨g,ag,hv,_,a0,x0,x1,x2⟩:=zka (ud E).nrow N
   cases hv
   have u:=Qf m.c s m.nu k x N
   have L:=yB (c:=m.c) (s:=s) (nu:=m.nu.take k) (fun y hy=>M y (List.mem_of_mem_take hy))
   have ai:(k:Int)<m.nu.length:=by omega
   rw[List.length_take,Nat.min_eq_left hk]at L
   generalize xe m.c s (m.nu.take k)=A at*
   obtain⟨a1,a2,a3,a4⟩:=L
   have HX:=zd N
   have b:=zd u
   have V:=zd G
   obtain⟨o1,o2,o3,o4,o5,o6⟩:=aa
   have D:Below wr.1.size wr (wr.alloc (.cells #[I J x.se,I J x.tm,I i32 x.val] 319)):=(Below.refl _ _).alloc (Nat.le_refl _) _
   have z:=zd (Za ((ud E).later D) hc s.t a8 a9 x ⟨o1,o2,o3,o4,o5,o6⟩)
   obtain⟨s0,-⟩:=zc ((ud P).block w.1.size (by omega)|>.trans (ud B1))
   clear N u G
   go_wp2_with fail
   refine(ud z).mono ?_
   rintro e O ⟨rfl,l⟩
   have q:=(ud P).block w.1.size (by omega)|>.trans (ud B1)
   have q1:=(l.block w.1.size (by rw[zG];omega)).trans ((Below.heap_alloc _ _ _ (by omega)).trans q)
   have U:=(l.block (w.1.size+2) (by rw[zG];omega)).trans ((Below.heap_alloc _ _ _ (by omega)).trans (ud V))
   have q3:=(l.block wr.1.size (by rw[zG];omega)).trans (zr _ _)
   have ao:wr.1.size<O.1.size:=by have:=l.size;rw[zG]at this;omega
   have ap:w.1.size<O.1.size:=by omega
   have aq:w.1.size+1+1<O.1.size:=by omega
   obtain⟨t0,t1,t2,-⟩:=zc q1
   obtain⟨-,-,n2,-⟩:=zc q3
   obtain⟨d0,d1,d2,d3,-⟩:=zc U
   have df:∀j,O.frozen? ⟨w.1.size+1+1,j,K⟩=false:=fun j=>zH U j
   have i:=zd U
   have d:=zd (show Below (w.1.size+2) W O from(ud P).trans ((D.mono (by omega)).trans (l.mono (by rw[zG];omega))))
   clear q q1 U q3 l s0 x0 x1 x2 D r8 a0
   by_cases a:zt m.c s.t x=s
   ·have C:=zd (zfu (A:=A) a)
    have hh:=a
    clear z
    rw[a]
    clear a hh
    by_cases o:A.cnt=0
    ·have f:=zd (zdN (v:=x.val) o)
     have ab:(A.cnt==0)=true:=by simp[o]
     clear o
     go_wp2_with fail
     go_roundw
     case rel=>
      refine⟨k+1,by omega,by go_num,?_,?_⟩
      ·rw[ud b,ud C,ud f]
       exact(Below.heap_alloc _ _ _ (by simp[World.setCell];omega)).trans (zjH (ud i) _ _ _ _)
      ·refine Below.alloc ?_ (by simp[World.setCell];omega) _
       repeat(refine xN ?_ (show w.1.size+2<=w.1.size+1+1 by omega))
       exact ud d
     case measure=>simp[intOf];omega
    ·have ab:(A.cnt==0)=false:=by simp[o]
     by_cases Q:x.val<A.mn
     ·by_cases F:A.mx<x.val
      ·have f:=zd (zjA (v:=x.val) o Q F)
       clear o
       go_wp2_with fail
       go_roundw
       case rel=>
        refine⟨k+1,by omega,by go_num,?_,?_⟩
        ·rw[ud b,ud C,ud f]
         exact(Below.heap_alloc _ _ _ (by simp[World.setCell];omega)).trans (zjH (ud i) _ _ _ _)
        ·refine Below.alloc ?_ (by simp[World.setCell];omega) _
         repeat(refine xN ?_ (show w.1.size+2<=w.1.size+1+1 by omega))
         exact ud d
       case measure=>simp[intOf];omega
      ·have f:=zd (zjB (v:=x.val) o Q F)
       clear o
       go_wp2_with fail
       go_roundw
       case rel=>
        refine⟨k+1,by omega,by go_num,?_,?_⟩
        ·rw[ud b,ud C,ud f]
         exact(Below.heap_alloc _ _ _ (by simp[World.setCell];omega)).trans (cl_2 (ud i) _ _ _)
        ·refine Below.alloc ?_ (by simp[World.setCell];omega) _
         repeat(refine xN ?_ (show w.1.size+2<=w.1.size+1+1 by omega))
         exact ud d
       case measure=>simp[intOf];omega
     ·by_cases F:A.mx<x.val
      ·have f:=zd (zjC (v:=x.val) o Q F)
       clear o
       go_wp2_with fail
       go_roundw
       case rel=>
        refine⟨k+1,by omega,by go_num,?_,?_⟩
        ·rw[ud b,ud C,ud f]
         exact(Below.heap_alloc _ _ _ (by simp[World.setCell];omega)).trans (cl_3 (ud i) _ _ _)
        ·refine Below.alloc ?_ (by simp[World.setCell];omega) _
         repeat(refine xN ?_ (show w.1.size+2<=w.1.size+1+1 by omega))
         exact ud d
       case measure=>simp[intOf];omega
      ·have f:=zd (zjD (v:=x.val) o Q F)
       clear o
       go_wp2_with fail
       go_roundw
       case rel=>
        refine⟨k+1,by omega,by go_num,?_,?_⟩
        ·rw[ud b,ud C,ud f]
         exact(Below.heap_alloc _ _ _ (by simp[World.setCell];omega)).trans (cl_0 (ud i) _ _)
        ·refine Below.alloc ?_ (by simp[World.setCell];omega) _
         repeat(refine xN ?_ (show w.1.size+2<=w.1.size+1+1 by omega))
         exact ud d
       case measure=>simp[intOf];omega
   ·have C:=zd (zdr (A:=A) a)
    have S:=ziZ a
    clear a
    rcases S with S|⟨Z,S⟩|⟨Z,ah,S⟩
    all_goals
     go_wp2_with fail
     go_roundw
     case rel=>exact⟨k+1,by omega,by go_num,by rw[ud b,ud C];exact(Below.heap_alloc _ _ _ (by omega)).trans (ud i),(ud d).alloc (by omega) _⟩
     case measure=>simp[intOf];omega
  ·have a5:k=m.nu.length:=by omega
   rw[a5,List.take_length]at G
   obtain⟨d0,d1,d2,d3,-⟩:=zc G
   have q:=(ud P).block (w.1.size+1) (by omega)|>.trans (ud B2)
   obtain⟨d4,d5,d6,d7,-⟩:=zc q
   have df:∀j,wr.frozen? ⟨w.1.size+1,j,K⟩=false:=fun j=>zH q j
   have Q1:=zd q
   clear q G
   go_wp2_with fail
   have hf:=ziW (ud Q1) (I J (xe m.c s m.nu).cnt) (I J (xe m.c s m.nu).sum) (I i32 (xe m.c s m.nu).mn) (I i32 (xe m.c s m.nu).mx)
   refine bodyPost_ret (v:=.agg #[I J (xe m.c s m.nu).cnt,I J (xe m.c s m.nu).sum,I i32 (xe m.c s m.nu).mn,I i32 (xe m.c s m.nu).mx]) (results_cell_row Tryz.results217 _ _ (w.1.size+1) _ _ _ _ rfl hf Tryz.underlying115 rfl (by kernel_rfl)) rfl ⟨rfl,?_⟩
   refine(ud X).trans ?_
   repeat(refine xN ?_ (show w.1.size<=w.1.size+1 by omega))
   exact Below.refl _ _
end Go.Proofs.YtndhpgciopcncaaGreatDoor
