import Derived.Test.YtndhpgciopcncaaGreatDoorUBrd2
open Go.Value renaming int → I
open Go.IntKind renaming i64 → J
open Option renaming none → K
open Option renaming some → O
open Nat renaming le_refl → E
set_option linter.unusedVariables false
set_option maxRecDepth 8000
set_option maxHeartbeats 4000000
open Go.Proofs.Tryz
namespace Go.Proofs.YtndhpgciopcncaaGreatDoor
open Go.RowKit Go.Maps Go.Shelf
open Go.ChangeMaps (setBlock)
theorem zbq{w:World}{g:Nat}{a0 u a2 a3 a4 a5 q p n a9 a:Value}{t:TypeId}{k:Nat×Nat}(h:w.1[g]?=O (.cells #[a0,u,a2,a3,a4,a5,q,p,n,a9,a] t k))(b0 b c d e f j m o r l:Value):(((((((((((w.setCell ⟨g,0,K⟩ b0).setCell ⟨g,1,K⟩ b).setCell ⟨g,2,K⟩ c).setCell ⟨g,3,K⟩ d).setCell ⟨g,4,K⟩ e).setCell ⟨g,5,K⟩ f).setCell ⟨g,6,K⟩ j).setCell ⟨g,7,K⟩ m).setCell ⟨g,8,K⟩ o).setCell ⟨g,9,K⟩ r).setCell ⟨g,10,K⟩ l).1[g]?=O (.cells #[b0,b,c,d,e,f,j,m,o,r,l] t k):=by
 have v:(w.setCell ⟨g,0,K⟩ b0).1[g]?=O (.cells #[b0,u,a2,a3,a4,a5,q,p,n,a9,a] t k):=xy (i:=0) h b0
 have x:((w.setCell ⟨g,0,K⟩ b0).setCell ⟨g,1,K⟩ b).1[g]?=O (.cells #[b0,b,a2,a3,a4,a5,q,p,n,a9,a] t k):=xy (i:=1) v b
 have y:(((w.setCell ⟨g,0,K⟩ b0).setCell ⟨g,1,K⟩ b).setCell ⟨g,2,K⟩ c).1[g]?=O (.cells #[b0,b,c,a3,a4,a5,q,p,n,a9,a] t k):=xy (i:=2) x c
 have z:((((w.setCell ⟨g,0,K⟩ b0).setCell ⟨g,1,K⟩ b).setCell ⟨g,2,K⟩ c).setCell ⟨g,3,K⟩ d).1[g]?=O (.cells #[b0,b,c,d,a4,a5,q,p,n,a9,a] t k):=xy (i:=3) y d
 have A:(((((w.setCell ⟨g,0,K⟩ b0).setCell ⟨g,1,K⟩ b).setCell ⟨g,2,K⟩ c).setCell ⟨g,3,K⟩ d).setCell ⟨g,4,K⟩ e).1[g]?=O (.cells #[b0,b,c,d,e,a5,q,p,n,a9,a] t k):=xy (i:=4) z e
 have B:((((((w.setCell ⟨g,0,K⟩ b0).setCell ⟨g,1,K⟩ b).setCell ⟨g,2,K⟩ c).setCell ⟨g,3,K⟩ d).setCell ⟨g,4,K⟩ e).setCell ⟨g,5,K⟩ f).1[g]?=O (.cells #[b0,b,c,d,e,f,q,p,n,a9,a] t k):=xy (i:=5) A f
 have C:(((((((w.setCell ⟨g,0,K⟩ b0).setCell ⟨g,1,K⟩ b).setCell ⟨g,2,K⟩ c).setCell ⟨g,3,K⟩ d).setCell ⟨g,4,K⟩ e).setCell ⟨g,5,K⟩ f).setCell ⟨g,6,K⟩ j).1[g]?=O (.cells #[b0,b,c,d,e,f,j,p,n,a9,a] t k):=xy (i:=6) B j
 have D:((((((((w.setCell ⟨g,0,K⟩ b0).setCell ⟨g,1,K⟩ b).setCell ⟨g,2,K⟩ c).setCell ⟨g,3,K⟩ d).setCell ⟨g,4,K⟩ e).setCell ⟨g,5,K⟩ f).setCell ⟨g,6,K⟩ j).setCell ⟨g,7,K⟩ m).1[g]?=O (.cells #[b0,b,c,d,e,f,j,m,n,a9,a] t k):=xy (i:=7) C m
 have F:(((((((((w.setCell ⟨g,0,K⟩ b0).setCell ⟨g,1,K⟩ b).setCell ⟨g,2,K⟩ c).setCell ⟨g,3,K⟩ d).setCell ⟨g,4,K⟩ e).setCell ⟨g,5,K⟩ f).setCell ⟨g,6,K⟩ j).setCell ⟨g,7,K⟩ m).setCell ⟨g,8,K⟩ o).1[g]?=O (.cells #[b0,b,c,d,e,f,j,m,o,a9,a] t k):=xy (i:=8) D o
 have G:((((((((((w.setCell ⟨g,0,K⟩ b0).setCell ⟨g,1,K⟩ b).setCell ⟨g,2,K⟩ c).setCell ⟨g,3,K⟩ d).setCell ⟨g,4,K⟩ e).setCell ⟨g,5,K⟩ f).setCell ⟨g,6,K⟩ j).setCell ⟨g,7,K⟩ m).setCell ⟨g,8,K⟩ o).setCell ⟨g,9,K⟩ r).1[g]?=O (.cells #[b0,b,c,d,e,f,j,m,o,r,a] t k):=xy (i:=9) F r
 have s:(((((((((((w.setCell ⟨g,0,K⟩ b0).setCell ⟨g,1,K⟩ b).setCell ⟨g,2,K⟩ c).setCell ⟨g,3,K⟩ d).setCell ⟨g,4,K⟩ e).setCell ⟨g,5,K⟩ f).setCell ⟨g,6,K⟩ j).setCell ⟨g,7,K⟩ m).setCell ⟨g,8,K⟩ o).setCell ⟨g,9,K⟩ r).setCell ⟨g,10,K⟩ l).1[g]?=O (.cells #[b0,b,c,d,e,f,j,m,o,r,l] t k):=xy (i:=10) G l
 exact s
theorem zgI{B:Nat}{w:World}{g:Nat}(a:B<=g)(b0 c d e f h i j k l b:Value):Below B w (((((((((((w.setCell ⟨g,0,K⟩ b0).setCell ⟨g,1,K⟩ c).setCell ⟨g,2,K⟩ d).setCell ⟨g,3,K⟩ e).setCell ⟨g,4,K⟩ f).setCell ⟨g,5,K⟩ h).setCell ⟨g,6,K⟩ i).setCell ⟨g,7,K⟩ j).setCell ⟨g,8,K⟩ k).setCell ⟨g,9,K⟩ l).setCell ⟨g,10,K⟩ b):=((((((((((((Below.refl _ _).setCell (p:=⟨g,0,K⟩) a b0).setCell (p:=⟨g,1,K⟩) a c).setCell (p:=⟨g,2,K⟩) a d).setCell (p:=⟨g,3,K⟩) a e).setCell (p:=⟨g,4,K⟩) a f).setCell (p:=⟨g,5,K⟩) a h).setCell (p:=⟨g,6,K⟩) a i).setCell (p:=⟨g,7,K⟩) a j).setCell (p:=⟨g,8,K⟩) a k).setCell (p:=⟨g,9,K⟩) a l).setCell (p:=⟨g,10,K⟩) a b)
theorem zeH(w:World)(p:Addr):w.drew.cell? p=w.cell? p:=rfl
theorem zq{w:World}{g i k j:Nat}{v:Value}(h:¬k=g):(w.setCell ⟨g,i,K⟩ v).cell? ⟨k,j,K⟩=w.cell? ⟨k,j,K⟩:=by
 have:=zF (w:=w) (g:=g) (i:=i) (k:=k) (v:=v) h
 simp only[World.cell?,this]
def KR(x:Tsk)(o:Tok×Int×Int):Obj:=.cells #[I J x.kd,I J x.s.t,I J x.s.sr,I J x.s.wa,I J x.se,I J x.ti,I J x.rest,I J o.1.ep,I J o.1.num,I J o.2.1,I J o.2.2] 51 (0,0)
theorem zjQ{w:World}{g:Nat}{x:Tsk}{o:Tok×Int×Int}(h:w.1[g]?=O (KR x o))(a b c d:Int):((((w.setCell ⟨g,7,K⟩ (I J a)).setCell ⟨g,8,K⟩ (I J b)).setCell ⟨g,9,K⟩ (I J c)).setCell ⟨g,10,K⟩ (I J d)).1[g]?=O (KR x (⟨a,b⟩,c,d)):=
 xy (i:=10) (xy (i:=9) (xy (i:=8) (xy (i:=7) h (I J a)) (I J b)) (I J c)) (I J d)
theorem zjL{w V:World}{g:Nat}(h:zo (fun k=>k=g) w V)(a b c d:Value):zo (fun k=>k=g) w ((((V.setCell ⟨g,7,K⟩ a).setCell ⟨g,8,K⟩ b).setCell ⟨g,9,K⟩ c).setCell ⟨g,10,K⟩ d):=
 zi (zi (zi (zi h rfl) rfl) rfl) rfl
theorem zfT{w:World}{b:Nat}{c:Cf}{tv:Value}{ep num:Int}{tb qb:Nat}{TL:List (Jk×Tsk)}{QL:List (Tok×Lse)}(h:zA w b c tv ep num tb qb TL QL)(x:Tsk)(t:Tok)(g:Lse)(hg:(t,g)∈QL)(hj:g.job=x.key)(hu:∀p∈QL,p.2.job=x.key->p=(t,g)):
  Calls prog 104 #[.pointer (O ⟨b,0,K⟩),.agg #[.iface x.jt (.agg #[I J x.s.t,I J x.s.sr,I J x.s.wa]),I J x.se,I J x.ti,I J x.rest]] w fun e w'=>e=.returned (.agg #[I J x.kd,I J x.s.t,I J x.s.sr,I J x.s.wa,I J x.se,I J x.ti,I J x.rest,I J t.ep,I J t.num,I J g.slot,I J g.til])/\Below w.1.size w w':=by
 have bs:=h.lt
 have aQ:=h.cell10
 obtain⟨y0,y1,az,yz⟩:=box2 w (.cells #[.iface x.jt (.agg #[I J x.s.t,I J x.s.sr,I J x.s.wa]),I J x.se,I J x.ti,I J x.rest] 177) (.cells #[I J 0,I J 0,I J 0,I J 0,I J 0,I J 0,I J 0,I J 0,I J 0,I J 0,I J 0] 51)
 have ax:=zd (keyOf_any x ((w.alloc (.cells #[.iface x.jt (.agg #[I J x.s.t,I J x.s.sr,I J x.s.wa]),I J x.se,I J x.ti,I J x.rest] 177)).alloc (.cells #[I J 0,I J 0,I J 0,I J 0,I J 0,I J 0,I J 0,I J 0,I J 0,I J 0,I J 0] 51)))
 have H:=zd h
 have Y0:=zd y0
 have Y1:=zd y1
 have aj:=zd az
 have YZ:=zd yz
 clear h y0 y1 az yz
 go_enter func104,ntmps104
 go_wp2_with fail
 refine(ud ax).mono ?_
 rintro e q ⟨rfl,a3⟩
 have ar:=a3.size
 have yz:=ud YZ
 have t0:=(a3.block _ (by omega)).trans (ud Y0)
 have r0:=(a3.block _ (by omega)).trans (ud Y1)
 have an:=(ud aj).trans (a3.mono (ud aj).size)
 have ab:=(ud H).later an
 have aR:=ab.cell10
 have br:=ab.lt
 have bA:=za t0
 have b0:=za r0
 obtain⟨-,s1,s2,s3,-⟩:=zc t0
 have R0:=zd r0
 have aH:=zd an
 have aJ:=zd ab
 clear a3 yz t0 r0 an ab aQ Y0 Y1 aj YZ ax
 --LOOP
 obtain⟨es,d,ad,ae⟩:=(ud aJ).leases
 obtain⟨v0,v1,R,vz⟩:=box2 q (.cells #[I J x.kd,I J x.s.t,I J x.s.sr,I J x.s.wa] 162) (.cells #[I J x.kd,I J x.s.t,I J x.s.sr,I J x.s.wa,I J x.se,I J x.ti,I J x.rest,I J 0,I J 0,I J (-1),I J 0] 51)
 have T:=(R.block _ (za ad)).trans ad
 have ag:=run_range_map (P:=prog) ((q.alloc (.cells #[I J x.kd,I J x.s.t,I J x.s.sr,I J x.s.wa] 162)).alloc (.cells #[I J x.kd,I J x.s.t,I J x.s.sr,I J x.s.wa,I J x.se,I J x.ti,I J x.rest,I J 0,I J 0,I J (-1),I J 0] 51)) 168 _ _ qb es d underlying168 T
 have av:=zd (And.intro v0 (And.intro v1 (And.intro R (And.intro vz (And.intro T ae)))))
 have bx:=za ad
 clear ad ae v0 v1 R vz T
 go_wp2_with fail
 obtain⟨v0,v1,R,vz,T,ae⟩:=ud av
 generalize((q.alloc (.cells #[I J x.kd,I J x.s.t,I J x.s.sr,I J x.s.wa] 162)).alloc (.cells #[I J x.kd,I J x.s.t,I J x.s.sr,I J x.s.wa,I J x.se,I J x.ti,I J x.rest,I J 0,I J 0,I J (-1),I J 0] 51))=W2 at*
 have b1:=(R.block _ b0).trans (ud R0)
 have b6:=R.size
 clear ag aR s1 s2 s3 av
 have HM:=zd ae
 have bc:=zd T
 have aP:=zd v0
 have aI:=zd R
 have ak:=zd vz
 have aM:=zd b1
 go_loopw [7,8] (fun _ _ wr=>∃(u:Array Nat) (c0:Nat) (o:Tok×Int×Int),wr.1[(q.1.size+1+1)]?=O (.mapIter (O qb) d u c0)/\d<=c0/\wr.1[qb]?=O (.map es d)/\wr.1[q.1.size+1]?=O (KR x o)/\(o=(t,g.slot,g.til)\/∀e∈es.toList,e.born∈u.toList->e.key≠ya t)/\zo (fun k=>k=q.1.size+1) W2 wr)
  (fun _ _ wr=>vP es (q.1.size+1+1) wr)
 case atStart=>
  have am:Below W2.1.size W2 (W2.alloc (.mapIter (O qb) d #[] d)):=(Below.refl _ _).alloc (E _) _
  refine⟨#[],d,(⟨0,0⟩,-1,0),by have:=zm W2 (.mapIter (O qb) d #[] d);rw[show W2.1.size=(q.1.size+1+1)from ud ak]at this;exact this,E _,(am.block _ (za T)).trans T,(am.block _ (za v1)).trans v1,.inr (by simp),zo.of_below am⟩
 case round=>
  obtain⟨u,c0,o,hr,ao,af,ac,A,hK⟩:=hrel
  have bz:=za hr
  have aF:W2.1.size=(q.1.size+1+1):=ud ak
  rcases run_next_at (P:=prog) wr 0 (q.1.size+1+1) qb d c0 u es d hr af (ud HM).born ao with⟨hz,D⟩|⟨e,ap,w1,aa,D⟩
  ·have ho:o=(t,g.slot,g.til):=by
    rcases A with A|A
    ·exact A
    ·exfalso
     obtain⟨z,ar,aT,_⟩:=zcv (ud HM) hg
     refine A z ar ?_ aT
     by_cases hs:z.born∈u.toList
     ·exact hs
     ·have:z∈(leftOf es u).toList:=xq.2 ⟨ar,hs⟩
      rw[Array.eq_empty_of_size_eq_zero hz]at this
      simp at this
   subst ho
   have a8:=hK.heap (k:=w.1.size+1) (ud aM) (by omega)
   have a6:wr.1[q.1.size+1]?=O (.cells #[I J x.kd,I J x.s.t,I J x.s.sr,I J x.s.wa,I J x.se,I J x.ti,I J x.rest,I J t.ep,I J t.num,I J g.slot,I J g.til] 51 (0,0)):=ac
   obtain⟨o0,o1,o2,o3,o4,o5,o6,o7,o8,o9,bE,-⟩:=zc a6
   obtain⟨z0,z1,z2,z3,z4,z5,z6,z7,z8,z9,bJ,-⟩:=zc a8
   have zf:=fun j=>zE a8 j
   have bw:=za a8
   have bu:=za a6
   have b8:¬q.1.size+1=w.1.size+1:=by omega
   have aK:=zd hK
   have aN:=zd a8
   clear aF
   clear hz ac a6 hK a8 hr af ao A
   go_wp2_with fail
   have hf:=zbq (ud aN) (I J x.kd) (I J x.s.t) (I J x.s.sr) (I J x.s.wa) (I J x.se) (I J x.ti) (I J x.rest) (I J t.ep) (I J t.num) (I J g.slot) (I J g.til)
   have hk:=ud aK
   have aS:Below w.1.size W2 wr:=⟨hk.os,hk.tape,hk.output,hk.size,fun j hj=>hk.block j (by have:=ud ak;omega) (by omega)⟩
   have hbb:=(ud aH).trans (((ud aI).mono (by omega)).trans aS)
   refine bodyPost_ret (v:=.agg #[I J x.kd,I J x.s.t,I J x.s.sr,I J x.s.wa,I J x.se,I J x.ti,I J x.rest,I J t.ep,I J t.num,I J g.slot,I J g.til]) (results_cell_row results104 _ _ (w.1.size+1) _ _ _ _ rfl hf underlying51 rfl (by kernel_rfl)) rfl ?_
   exact⟨rfl,hbb.trans (zgI (Nat.le_succ _) (I J x.kd) (I J x.s.t) (I J x.s.sr) (I J x.s.wa) (I J x.se) (I J x.ti) (I J x.rest) (I J t.ep) (I J t.num) (I J g.slot) (I J g.til))⟩
  ·have au:=zd ap
   obtain⟨S,aW⟩:=xq.1 ap
   have aD:w1.1[(q.1.size+1+1)]?=O (.mapIter (O qb) d u c0):=by rcases aa with rfl|rfl<;>exact hr
   have aC:w1.1[qb]?=O (.map es d):=by rcases aa with rfl|rfl<;>exact af
   have aB:w1.1[q.1.size+1]?=O (KR x o):=by rcases aa with rfl|rfl<;>exact ac
   have aU:qb≠(q.1.size+1+1):=by omega
   obtain⟨X,hX⟩:∃X,setBlock w1 (q.1.size+1+1) (.mapIter (O qb) d (u.push e.born) d)=X:=⟨_,rfl⟩
   have L:X.1[(q.1.size+1+1)]?=O (.mapIter (O qb) d (u.push e.born) d):=by rw[<-hX];exact xE (za aD) _
   have G:X.1[qb]?=O (.map es d):=by rw[<-hX,xn aU];exact aC
   have C:X.1[q.1.size+1]?=O (KR x o):=by rw[<-hX,xn (by omega)];exact aB
   have aA:zo (fun k=>k=(q.1.size+1+1)) wr X:=by
    rw[<-hX];rcases aa with rfl|rfl
    ·exact xQ _
    ·exact(zo.refl (fun k=>k=(q.1.size+1+1)) wr).drew.trans (xQ _) (fun _ _ h=>h)
   have Q:zo (fun k=>k=q.1.size+1) W2 X:=hK.trans aA (fun i hi e=>by omega)
   rw[hX]at D
   have ai:=run_entry_at (P:=prog) X (q.1.size+1+1) qb d u es d e L G S (ud HM).once
   obtain⟨M,hk,hv⟩:=Z1 qX (ud HM) S
   obtain⟨⟨n,y⟩,aE⟩:∃y,yo xx QL e=y:=⟨_,rfl⟩
   rw[aE]at M hk hv
   have U:e.key=ya n:=hk
   have a9:e.val=kV y:=hv
   have aw:=zd U
   unfold ya at U
   unfold kV at a9
   rw[U,a9]at D ai
   have al:=za L
   have a5:=Q.heap (ud aP) (by omega)
   obtain⟨b2,b3,b4,b5,-⟩:=zc a5
   have bt:=za a5
   have F:=za C
   have a4:=fun W=>zgi ⟨y.kd,y.s⟩ x.key W
   have aq:X.1[q.1.size+1]?=O (.cells #[I J x.kd,I J x.s.t,I J x.s.sr,I J x.s.wa,I J x.se,I J x.ti,I J x.rest,I J o.1.ep,I J o.1.num,I J o.2.1,I J o.2.2] 51 (0,0)):=C
   obtain⟨-,-,-,-,-,-,-,q7,q8,q9,aG,-⟩:=zc aq
   have qf:=fun j=>zE aq j
   have HP:=zd (And.intro L (And.intro G (And.intro C (And.intro Q (And.intro A (And.intro S (And.intro M hr)))))))
   have hV:Below X.1.size X ((X.alloc (.cells #[I J n.ep,I J n.num] 49)).alloc (.cells #[I J y.kd,I J y.s.t,I J y.s.sr,I J y.s.wa,I J y.slot,I J y.til] 164)):=((Below.refl _ _).alloc (E _) _).alloc ((Below.refl _ _).alloc (E _) _).size _
   have HV:=zd hV
   have B:decide ((⟨y.kd,y.s⟩:Jk)=x.key)=true\/decide ((⟨y.kd,y.s⟩:Jk)=x.key)=false:=by cases decide ((⟨y.kd,y.s⟩:Jk)=x.key)<;>simp
   clear aF
   clear aD aC aB hX aa hk hv aE ap S aW U a9 af L G C Q aA hK ac hr ao A aq a5 hV
   rcases B with B|B
   ·have aY:=hu (n,y) M (by have:=of_decide_eq_true B;exact this)
    injection aY with e1 e2
    subst e1 e2
    simp only[B]at a4
    dsimp only[Tsk.key]at a4
    clear B M
    go_wp2_with fail
    obtain⟨z0,z1,zb,zz⟩:=box2 X (.cells #[I J n.ep,I J n.num] 49) (.cells #[I J y.kd,I J y.s.t,I J y.s.sr,I J y.s.wa,I J y.slot,I J y.til] 164)
    obtain⟨a1,a2,-⟩:=zc z0
    obtain⟨-,-,-,-,Z,a0,-⟩:=zc z1
    have bF:=(zb.cell (p:=⟨q.1.size+1,7,K⟩) F).trans q7
    have bG:=(zb.cell (p:=⟨q.1.size+1,8,K⟩) F).trans q8
    have bH:=(zb.cell (p:=⟨q.1.size+1,9,K⟩) F).trans q9
    have bb:=(zb.cell (p:=⟨q.1.size+1,10,K⟩) F).trans aG
    have bI:=fun j=>zE (show((X.alloc (.cells #[I J n.ep,I J n.num] 49)).alloc (.cells #[I J y.kd,I J y.s.t,I J y.s.sr,I J y.s.wa,I J y.slot,I J y.til] 164)).1[q.1.size+1]?=O (.cells #[I J x.kd,I J x.s.t,I J x.s.sr,I J x.s.wa,I J x.se,I J x.ti,I J x.rest,I J o.1.ep,I J o.1.num,I J o.2.1,I J o.2.2] 51 (0,0))from(zb.block _ F).trans (ud HP).2.2.1) j
    have l:¬X.1.size=q.1.size+1:=by omega
    have m:¬X.1.size+1=q.1.size+1:=by omega
    have bC:=za z0
    have bD:=za z1
    have bB:=Nat.lt_of_lt_of_le F zb.size
    clear z0 z1 zb zz q7 q8 q9 aG qf b2 b3 b4 b5 a4 D ai
    have b7:=al
    have b9:=F
    generalize bq:((X.alloc (.cells #[I J n.ep,I J n.num] 49)).alloc (.cells #[I J y.kd,I J y.s.t,I J y.s.sr,I J y.s.wa,I J y.slot,I J y.til] 164))=V at*
    have bd:=zd al
    have aL:=zd F
    have ba:¬qb=q.1.size+1:=by omega
    generalize ah:X.1.size=N at*
    have aO:=zd ah
    clear ah
    generalize Y:q.1.size+1=r at*
    have ay:=zd Y
    clear Y
    have be:((V.setCell ⟨r,7,K⟩ (I J n.ep)).setCell ⟨r,8,K⟩ (I J n.num)).drew.cell? ⟨N,0,K⟩=O (I J n.ep):=((zq l).trans (zq l)).trans a1
    have bf:((V.setCell ⟨r,7,K⟩ (I J n.ep)).setCell ⟨r,8,K⟩ (I J n.num)).drew.cell? ⟨N,1,K⟩=O (I J n.num):=((zq l).trans (zq l)).trans a2
    have bg:((V.setCell ⟨r,7,K⟩ (I J n.ep)).setCell ⟨r,8,K⟩ (I J n.num)).drew.cell? ⟨N+1,4,K⟩=O (I J y.slot):=((zq m).trans (zq m)).trans Z
    have bh:((V.setCell ⟨r,7,K⟩ (I J n.ep)).setCell ⟨r,8,K⟩ (I J n.num)).drew.cell? ⟨N+1,5,K⟩=O (I J y.til):=((zq m).trans (zq m)).trans a0
    have bi:(((V.setCell ⟨r,7,K⟩ (I J n.ep)).setCell ⟨r,8,K⟩ (I J n.num)).setCell ⟨r,9,K⟩ (I J y.slot)).drew.cell? ⟨N,0,K⟩=O (I J n.ep):=((zq l).trans ((zq l).trans (zq l))).trans a1
    have bj:(((V.setCell ⟨r,7,K⟩ (I J n.ep)).setCell ⟨r,8,K⟩ (I J n.num)).setCell ⟨r,9,K⟩ (I J y.slot)).drew.cell? ⟨N,1,K⟩=O (I J n.num):=((zq l).trans ((zq l).trans (zq l))).trans a2
    have bk:(((V.setCell ⟨r,7,K⟩ (I J n.ep)).setCell ⟨r,8,K⟩ (I J n.num)).setCell ⟨r,9,K⟩ (I J y.slot)).drew.cell? ⟨N+1,4,K⟩=O (I J y.slot):=((zq m).trans ((zq m).trans (zq m))).trans Z
    have bl:(((V.setCell ⟨r,7,K⟩ (I J n.ep)).setCell ⟨r,8,K⟩ (I J n.num)).setCell ⟨r,9,K⟩ (I J y.slot)).drew.cell? ⟨N+1,5,K⟩=O (I J y.til):=((zq m).trans ((zq m).trans (zq m))).trans a0
    have bm:((((V.setCell ⟨r,7,K⟩ (I J n.ep)).setCell ⟨r,8,K⟩ (I J n.num)).setCell ⟨r,9,K⟩ (I J y.slot)).setCell ⟨r,10,K⟩ (I J y.til)).drew.cell? ⟨N,0,K⟩=O (I J n.ep):=((zq l).trans ((zq l).trans ((zq l).trans (zq l)))).trans a1
    have bn:((((V.setCell ⟨r,7,K⟩ (I J n.ep)).setCell ⟨r,8,K⟩ (I J n.num)).setCell ⟨r,9,K⟩ (I J y.slot)).setCell ⟨r,10,K⟩ (I J y.til)).drew.cell? ⟨N,1,K⟩=O (I J n.num):=((zq l).trans ((zq l).trans ((zq l).trans (zq l)))).trans a2
    have bo:((((V.setCell ⟨r,7,K⟩ (I J n.ep)).setCell ⟨r,8,K⟩ (I J n.num)).setCell ⟨r,9,K⟩ (I J y.slot)).setCell ⟨r,10,K⟩ (I J y.til)).drew.cell? ⟨N+1,4,K⟩=O (I J y.slot):=((zq m).trans ((zq m).trans ((zq m).trans (zq m)))).trans Z
    have bp:((((V.setCell ⟨r,7,K⟩ (I J n.ep)).setCell ⟨r,8,K⟩ (I J n.num)).setCell ⟨r,9,K⟩ (I J y.slot)).setCell ⟨r,10,K⟩ (I J y.til)).drew.cell? ⟨N+1,5,K⟩=O (I J y.til):=((zq m).trans ((zq m).trans ((zq m).trans (zq m)))).trans a0
    go_region_held3 (fun w'=>w'.cell? ⟨N,0,K⟩=O (I J n.ep)/\w'.cell? ⟨N,1,K⟩=O (I J n.num)/\w'.cell? ⟨N+1,4,K⟩=O (I J y.slot)/\w'.cell? ⟨N+1,5,K⟩=O (I J y.til)) (first|go_keep|(dsimp only;refine⟨?_,?_,?_,?_⟩<;>(simp only[zeH];repeat rw[zq (by assumption)];assumption))|exact⟨((zq l).trans (zq l)).trans a1,((zq l).trans (zq l)).trans a2,((zq m).trans (zq m)).trans Z,((zq m).trans (zq m)).trans a0⟩|exact⟨((zq l).trans ((zq l).trans (zq l))).trans a1,((zq l).trans ((zq l).trans (zq l))).trans a2,((zq m).trans ((zq m).trans (zq m))).trans Z,((zq m).trans ((zq m).trans (zq m))).trans a0⟩|exact⟨((zq l).trans ((zq l).trans ((zq l).trans (zq l)))).trans a1,((zq l).trans ((zq l).trans ((zq l).trans (zq l)))).trans a2,((zq m).trans ((zq m).trans ((zq m).trans (zq m)))).trans Z,((zq m).trans ((zq m).trans ((zq m).trans (zq m)))).trans a0⟩) (fail)
    go_wp2_with fail
    obtain⟨L,G,C,Q,A,S,M,hr⟩:=ud HP
    have hV:=ud HV
    have ah:X.1.size=N:=ud aO
    have Y:q.1.size+1=r:=ud ay
    subst Y
    subst ah
    have bv:=ud aL
    have kU:zo (fun k=>k=q.1.size+1) X ((((V.setCell ⟨q.1.size+1,7,K⟩ (I J n.ep)).setCell ⟨q.1.size+1,8,K⟩ (I J n.num)).setCell ⟨q.1.size+1,9,K⟩ (I J y.slot)).setCell ⟨q.1.size+1,10,K⟩ (I J y.til)):=zjL (zo.of_below (f:=fun k=>k=q.1.size+1) hV) (I J n.ep) (I J n.num) (I J y.slot) (I J y.til)
    have a7:=kU.heap L (by omega)
    have aZ:=kU.heap G (by omega)
    have aX:=zjQ ((hV.block _ (za C)).trans C) n.ep n.num y.slot y.til
    go_roundw
    case rel=>exact⟨_,_,_,a7,E _,aZ,aX,.inl rfl,(Q.trans kU (fun _ _ e=>e)).drew⟩
    case measure=>
     rw[xg (w:=(((((V.setCell ⟨q.1.size+1,7,K⟩ (I J n.ep)).setCell ⟨q.1.size+1,8,K⟩ (I J n.num)).setCell ⟨q.1.size+1,9,K⟩ (I J y.slot)).setCell ⟨q.1.size+1,10,K⟩ (I J y.til))).drew) a7,xg hr]
     exact qC (ud au)
   ·have aV:n≠t:=fun e=>by
     have h1:=(ud HM).nodup
     have h2:=qB h1 M
     have h3:=qB h1 hg
     rw[e,h3]at h2;injection h2 with h2
     rw[<-h2]at B
     rw[show(⟨g.kd,g.s⟩:Jk)=x.key from hj]at B
     simp at B
    simp only[B]at a4
    dsimp only[Tsk.key]at a4
    clear B M
    go_wp2_with fail
    obtain⟨L,G,C,Q,A,S,M,hr⟩:=ud HP
    have hV:=ud HV
    have a7:=(hV.block _ al).trans L
    refine⟨⟨_,_,o,a7,E _,(hV.block _ (za G)).trans G,(hV.block _ F).trans C,?_,Zs Q hV⟩,?_⟩
    ·rcases A with A|A
     ·exact .inl A
     ·refine .inr (fun a ha hs=>?_)
      rw[Array.toList_push,List.mem_append]at hs
      rcases hs with hs|hs
      ·exact A a ha hs
      ·rw[List.mem_singleton]at hs
       rw[J7 (ud HM).once ha S hs,ud aw]
       exact fun e=>aV (zdY e)
    ·rw[xg a7,xg hr];exact qC (ud au)
end Go.Proofs.YtndhpgciopcncaaGreatDoor
