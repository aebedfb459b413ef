import Derived.Test.YtpbimdkclnekeaaGreatVOrd1
open Go.Value renaming int → I
open Go.IntKind renaming i64 → J
open Option renaming none → K
open Option renaming some → O
open Nat renaming le_refl → E
set_option linter.unusedVariables false
set_option maxRecDepth 8000
set_option maxHeartbeats 4000000
open Go.Proofs.Tryz
namespace Go.Proofs.YtpbimdkclnekeaaGreat
open Go.RowKit Go.Maps Go.Shelf
open Go.ChangeMaps (setBlock)
theorem kH{w:World}{g:Nat}{B A y x v u r q o n a:Value}{t:TypeId}{k:Nat×Nat}(h:w.1[g]?=O (.cells #[B,A,y,x,v,u,r,q,o,n,a] t k))(b0 b c d e f j m p s l:Value):(((((((((((w.setCell ⟨g,0,K⟩ b0).setCell ⟨g,1,K⟩ b).setCell ⟨g,2,K⟩ c).setCell ⟨g,3,K⟩ d).setCell ⟨g,4,K⟩ e).setCell ⟨g,5,K⟩ f).setCell ⟨g,6,K⟩ j).setCell ⟨g,7,K⟩ m).setCell ⟨g,8,K⟩ p).setCell ⟨g,9,K⟩ s).setCell ⟨g,10,K⟩ l).1[g]?=O (.cells #[b0,b,c,d,e,f,j,m,p,s,l] t k):=by
 have C:(w.setCell ⟨g,0,K⟩ b0).1[g]?=O (.cells #[b0,A,y,x,v,u,r,q,o,n,a] t k):=xm (i:=0) h b0
 have D:((w.setCell ⟨g,0,K⟩ b0).setCell ⟨g,1,K⟩ b).1[g]?=O (.cells #[b0,b,y,x,v,u,r,q,o,n,a] t k):=xm (i:=1) C b
 have F:(((w.setCell ⟨g,0,K⟩ b0).setCell ⟨g,1,K⟩ b).setCell ⟨g,2,K⟩ c).1[g]?=O (.cells #[b0,b,c,x,v,u,r,q,o,n,a] t k):=xm (i:=2) D c
 have G:((((w.setCell ⟨g,0,K⟩ b0).setCell ⟨g,1,K⟩ b).setCell ⟨g,2,K⟩ c).setCell ⟨g,3,K⟩ d).1[g]?=O (.cells #[b0,b,c,d,v,u,r,q,o,n,a] t k):=xm (i:=3) F d
 have H:(((((w.setCell ⟨g,0,K⟩ b0).setCell ⟨g,1,K⟩ b).setCell ⟨g,2,K⟩ c).setCell ⟨g,3,K⟩ d).setCell ⟨g,4,K⟩ e).1[g]?=O (.cells #[b0,b,c,d,e,u,r,q,o,n,a] t k):=xm (i:=4) G e
 have L:((((((w.setCell ⟨g,0,K⟩ b0).setCell ⟨g,1,K⟩ b).setCell ⟨g,2,K⟩ c).setCell ⟨g,3,K⟩ d).setCell ⟨g,4,K⟩ e).setCell ⟨g,5,K⟩ f).1[g]?=O (.cells #[b0,b,c,d,e,f,r,q,o,n,a] t k):=xm (i:=5) H f
 have M:(((((((w.setCell ⟨g,0,K⟩ b0).setCell ⟨g,1,K⟩ b).setCell ⟨g,2,K⟩ c).setCell ⟨g,3,K⟩ d).setCell ⟨g,4,K⟩ e).setCell ⟨g,5,K⟩ f).setCell ⟨g,6,K⟩ j).1[g]?=O (.cells #[b0,b,c,d,e,f,j,q,o,n,a] t k):=xm (i:=6) L j
 have N:((((((((w.setCell ⟨g,0,K⟩ b0).setCell ⟨g,1,K⟩ b).setCell ⟨g,2,K⟩ c).setCell ⟨g,3,K⟩ d).setCell ⟨g,4,K⟩ e).setCell ⟨g,5,K⟩ f).setCell ⟨g,6,K⟩ j).setCell ⟨g,7,K⟩ m).1[g]?=O (.cells #[b0,b,c,d,e,f,j,m,o,n,a] t k):=xm (i:=7) M m
 have P:(((((((((w.setCell ⟨g,0,K⟩ b0).setCell ⟨g,1,K⟩ b).setCell ⟨g,2,K⟩ c).setCell ⟨g,3,K⟩ d).setCell ⟨g,4,K⟩ e).setCell ⟨g,5,K⟩ f).setCell ⟨g,6,K⟩ j).setCell ⟨g,7,K⟩ m).setCell ⟨g,8,K⟩ p).1[g]?=O (.cells #[b0,b,c,d,e,f,j,m,p,n,a] t k):=xm (i:=8) N p
 have Q:((((((((((w.setCell ⟨g,0,K⟩ b0).setCell ⟨g,1,K⟩ b).setCell ⟨g,2,K⟩ c).setCell ⟨g,3,K⟩ d).setCell ⟨g,4,K⟩ e).setCell ⟨g,5,K⟩ f).setCell ⟨g,6,K⟩ j).setCell ⟨g,7,K⟩ m).setCell ⟨g,8,K⟩ p).setCell ⟨g,9,K⟩ s).1[g]?=O (.cells #[b0,b,c,d,e,f,j,m,p,s,a] t k):=xm (i:=9) P s
 have z:(((((((((((w.setCell ⟨g,0,K⟩ b0).setCell ⟨g,1,K⟩ b).setCell ⟨g,2,K⟩ c).setCell ⟨g,3,K⟩ d).setCell ⟨g,4,K⟩ e).setCell ⟨g,5,K⟩ f).setCell ⟨g,6,K⟩ j).setCell ⟨g,7,K⟩ m).setCell ⟨g,8,K⟩ p).setCell ⟨g,9,K⟩ s).setCell ⟨g,10,K⟩ l).1[g]?=O (.cells #[b0,b,c,d,e,f,j,m,p,s,l] t k):=xm (i:=10) Q l
 exact z
theorem KZ{B:Nat}{w:World}{g:Nat}(a:B<=g)(b0 c d e f h i j k l b:Value):Below B w (((((((((((w.setCell ⟨g,0,K⟩ b0).setCell ⟨g,1,K⟩ c).setCell ⟨g,2,K⟩ d).setCell ⟨g,3,K⟩ e).setCell ⟨g,4,K⟩ f).setCell ⟨g,5,K⟩ h).setCell ⟨g,6,K⟩ i).setCell ⟨g,7,K⟩ j).setCell ⟨g,8,K⟩ k).setCell ⟨g,9,K⟩ l).setCell ⟨g,10,K⟩ b):=((((((((((((Below.refl _ _).setCell (p:=⟨g,0,K⟩) a b0).setCell (p:=⟨g,1,K⟩) a c).setCell (p:=⟨g,2,K⟩) a d).setCell (p:=⟨g,3,K⟩) a e).setCell (p:=⟨g,4,K⟩) a f).setCell (p:=⟨g,5,K⟩) a h).setCell (p:=⟨g,6,K⟩) a i).setCell (p:=⟨g,7,K⟩) a j).setCell (p:=⟨g,8,K⟩) a k).setCell (p:=⟨g,9,K⟩) a l).setCell (p:=⟨g,10,K⟩) a b)
theorem zht(w:World)(p:Addr):w.drew.cell? p=w.cell? p:=rfl
theorem zE{w:World}{g i k j:Nat}{v:Value}(h:¬k=g):(w.setCell ⟨g,i,K⟩ v).cell? ⟨k,j,K⟩=w.cell? ⟨k,j,K⟩:=by
 have:=zT (w:=w) (g:=g) (i:=i) (k:=k) (v:=v) h
 simp only[World.cell?,this]
def Q8(x:Tsk)(o:Tok×Int×Int):Obj:=.cells #[I J x.kd,I J x.s.t,I J x.s.se,I J x.s.we,I J x.si,I J x.tc,I J x.rest,I J o.1.ep,I J o.1.num,I J o.2.1,I J o.2.2] 51 (0,0)
theorem zlF{w:World}{g:Nat}{x:Tsk}{o:Tok×Int×Int}(h:w.1[g]?=O (Q8 x o))(a b c d:Int):((((w.setCell ⟨g,7,K⟩ (I J a)).setCell ⟨g,8,K⟩ (I J b)).setCell ⟨g,9,K⟩ (I J c)).setCell ⟨g,10,K⟩ (I J d)).1[g]?=O (Q8 x (⟨a,b⟩,c,d)):=
 xm (i:=10) (xm (i:=9) (xm (i:=8) (xm (i:=7) h (I J a)) (I J b)) (I J c)) (I J d)
theorem zlB{w V:World}{g:Nat}(h:zk (fun k=>k=g) w V)(a b c d:Value):zk (fun k=>k=g) w ((((V.setCell ⟨g,7,K⟩ a).setCell ⟨g,8,K⟩ b).setCell ⟨g,9,K⟩ c).setCell ⟨g,10,K⟩ d):=
 zn (zn (zn (zn h rfl) rfl) rfl) rfl
theorem zcz{w:World}{b:Nat}{c:Cf}{tv:Value}{ep num:Int}{tb qb:Nat}{TL:List (Jk×Tsk)}{QL:List (Tok×Lse)}(h:zM w b c tv ep num tb qb TL QL)(x:Tsk)(t:Tok)(g:Lse)(hg:(t,g)∈QL)(hj:g.job=x.key)(hu:∀p∈QL,p.2.job=x.key->p=(t,g)):
  Calls prog 89 #[.pointer (O ⟨b,0,K⟩),.agg #[.iface x.jt (.agg #[I J x.s.t,I J x.s.se,I J x.s.we]),I J x.si,I J x.tc,I J x.rest]] w fun e w'=>e=.returned (.agg #[I J x.kd,I J x.s.t,I J x.s.se,I J x.s.we,I J x.si,I J x.tc,I J x.rest,I J t.ep,I J t.num,I J g.slot,I J g.til])/\Below w.1.size w w':=by
 have bs:=h.lt
 have aQ:=h.cell10
 obtain⟨y0,y1,az,yz⟩:=box2 w (.cells #[.iface x.jt (.agg #[I J x.s.t,I J x.s.se,I J x.s.we]),I J x.si,I J x.tc,I J x.rest] 162) (.cells #[I J 0,I J 0,I J 0,I J 0,I J 0,I J 0,I J 0,I J 0,I J 0,I J 0,I J 0] 51)
 have ax:=ze (keyOf_any x ((w.alloc (.cells #[.iface x.jt (.agg #[I J x.s.t,I J x.s.se,I J x.s.we]),I J x.si,I J x.tc,I J x.rest] 162)).alloc (.cells #[I J 0,I J 0,I J 0,I J 0,I J 0,I J 0,I J 0,I J 0,I J 0,I J 0,I J 0] 51)))
 have H:=ze h
 have Y0:=ze y0
 have Y1:=ze y1
 have aj:=ze az
 have YZ:=ze yz
 clear h y0 y1 az yz
 go_enter func89,ntmps89
 go_wp2_with fail
 refine(ud ax).mono ?_
 rintro e q ⟨rfl,a3⟩
 have ar:=a3.size
 have yz:=ud YZ
 have t0:=(a3.block _ (by omega)).trans (ud Y0)
 have r0:=(a3.block _ (by omega)).trans (ud Y1)
 have an:=(ud aj).trans (a3.mono (ud aj).size)
 have ab:=(ud H).later an
 have aR:=ab.cell10
 have br:=ab.lt
 have bA:=zd t0
 have b0:=zd r0
 obtain⟨-,s1,s2,s3,-⟩:=zc t0
 have R0:=ze r0
 have aH:=ze an
 have aJ:=ze ab
 clear a3 yz t0 r0 an ab aQ Y0 Y1 aj YZ ax
 --LOOP
 obtain⟨es,d,ad,ae⟩:=(ud aJ).leases
 obtain⟨v0,v1,R,vz⟩:=box2 q (.cells #[I J x.kd,I J x.s.t,I J x.s.se,I J x.s.we] 147) (.cells #[I J x.kd,I J x.s.t,I J x.s.se,I J x.s.we,I J x.si,I J x.tc,I J x.rest,I J 0,I J 0,I J (-1),I J 0] 51)
 have T:=(R.block _ (zd ad)).trans ad
 have ag:=run_range_map (P:=prog) ((q.alloc (.cells #[I J x.kd,I J x.s.t,I J x.s.se,I J x.s.we] 147)).alloc (.cells #[I J x.kd,I J x.s.t,I J x.s.se,I J x.s.we,I J x.si,I J x.tc,I J x.rest,I J 0,I J 0,I J (-1),I J 0] 51)) 153 _ _ qb es d underlying153 T
 have av:=ze (And.intro v0 (And.intro v1 (And.intro R (And.intro vz (And.intro T ae)))))
 have bx:=zd ad
 clear ad ae v0 v1 R vz T
 go_wp2_with fail
 obtain⟨v0,v1,R,vz,T,ae⟩:=ud av
 generalize((q.alloc (.cells #[I J x.kd,I J x.s.t,I J x.s.se,I J x.s.we] 147)).alloc (.cells #[I J x.kd,I J x.s.t,I J x.s.se,I J x.s.we,I J x.si,I J x.tc,I J x.rest,I J 0,I J 0,I J (-1),I J 0] 51))=W2 at*
 have b1:=(R.block _ b0).trans (ud R0)
 have b6:=R.size
 clear ag aR s1 s2 s3 av
 have HM:=ze ae
 have bc:=ze T
 have aP:=ze v0
 have aI:=ze R
 have ak:=ze vz
 have aM:=ze b1
 go_loopw [7,8] (fun _ _ wr=>∃(u:Array Nat) (c0:Nat) (o:Tok×Int×Int),wr.1[(q.1.size+1+1)]?=O (.mapIter (O qb) d u c0)/\d<=c0/\wr.1[qb]?=O (.map es d)/\wr.1[q.1.size+1]?=O (Q8 x o)/\(o=(t,g.slot,g.til)\/∀e∈es.toList,e.born∈u.toList->e.key≠yd t)/\zk (fun k=>k=q.1.size+1) W2 wr)
  (fun _ _ wr=>Zj es (q.1.size+1+1) wr)
 case atStart=>
  have am:Below W2.1.size W2 (W2.alloc (.mapIter (O qb) d #[] d)):=(Below.refl _ _).alloc (E _) _
  refine⟨#[],d,(⟨0,0⟩,-1,0),by have:=zo W2 (.mapIter (O qb) d #[] d);rw[show W2.1.size=(q.1.size+1+1)from ud ak]at this;exact this,E _,(am.block _ (zd T)).trans T,(am.block _ (zd v1)).trans v1,.inr (by simp),zk.of_below am⟩
 case round=>
  obtain⟨u,c0,o,hr,ao,af,ac,A,hK⟩:=hrel
  have bz:=zd hr
  have aF:W2.1.size=(q.1.size+1+1):=ud ak
  rcases run_next_at (P:=prog) wr 0 (q.1.size+1+1) qb d c0 u es d hr af (ud HM).born ao with⟨hz,D⟩|⟨e,ap,w1,aa,D⟩
  ·have ho:o=(t,g.slot,g.til):=by
    rcases A with A|A
    ·exact A
    ·exfalso
     obtain⟨z,ar,aT,_⟩:=zeK (ud HM) hg
     refine A z ar ?_ aT
     by_cases hs:z.born∈u.toList
     ·exact hs
     ·have:z∈(leftOf es u).toList:=xC.2 ⟨ar,hs⟩
      rw[Array.eq_empty_of_size_eq_zero hz]at this
      simp at this
   subst ho
   have a8:=hK.heap (k:=w.1.size+1) (ud aM) (by omega)
   have a6:wr.1[q.1.size+1]?=O (.cells #[I J x.kd,I J x.s.t,I J x.s.se,I J x.s.we,I J x.si,I J x.tc,I J x.rest,I J t.ep,I J t.num,I J g.slot,I J g.til] 51 (0,0)):=ac
   obtain⟨o0,o1,o2,o3,o4,o5,o6,o7,o8,o9,bE,-⟩:=zc a6
   obtain⟨z0,z1,z2,z3,z4,z5,z6,z7,z8,z9,bJ,-⟩:=zc a8
   have zf:=fun j=>zD a8 j
   have bw:=zd a8
   have bu:=zd a6
   have b8:¬q.1.size+1=w.1.size+1:=by omega
   have aK:=ze hK
   have aN:=ze a8
   clear aF
   clear hz ac a6 hK a8 hr af ao A
   go_wp2_with fail
   have hf:=kH (ud aN) (I J x.kd) (I J x.s.t) (I J x.s.se) (I J x.s.we) (I J x.si) (I J x.tc) (I J x.rest) (I J t.ep) (I J t.num) (I J g.slot) (I J g.til)
   have hk:=ud aK
   have aS:Below w.1.size W2 wr:=⟨hk.os,hk.tape,hk.output,hk.size,fun j hj=>hk.block j (by have:=ud ak;omega) (by omega)⟩
   have hbb:=(ud aH).trans (((ud aI).mono (by omega)).trans aS)
   refine bodyPost_ret (v:=.agg #[I J x.kd,I J x.s.t,I J x.s.se,I J x.s.we,I J x.si,I J x.tc,I J x.rest,I J t.ep,I J t.num,I J g.slot,I J g.til]) (results_cell_row results89 _ _ (w.1.size+1) _ _ _ _ rfl hf underlying51 rfl (by kernel_rfl)) rfl ?_
   exact⟨rfl,hbb.trans (KZ (Nat.le_succ _) (I J x.kd) (I J x.s.t) (I J x.s.se) (I J x.s.we) (I J x.si) (I J x.tc) (I J x.rest) (I J t.ep) (I J t.num) (I J g.slot) (I J g.til))⟩
  ·have au:=ze ap
   obtain⟨S,aW⟩:=xC.1 ap
   have aD:w1.1[(q.1.size+1+1)]?=O (.mapIter (O qb) d u c0):=by rcases aa with rfl|rfl<;>exact hr
   have aC:w1.1[qb]?=O (.map es d):=by rcases aa with rfl|rfl<;>exact af
   have aB:w1.1[q.1.size+1]?=O (Q8 x o):=by rcases aa with rfl|rfl<;>exact ac
   have aU:qb≠(q.1.size+1+1):=by omega
   obtain⟨X,hX⟩:∃X,setBlock w1 (q.1.size+1+1) (.mapIter (O qb) d (u.push e.born) d)=X:=⟨_,rfl⟩
   have L:X.1[(q.1.size+1+1)]?=O (.mapIter (O qb) d (u.push e.born) d):=by rw[<-hX];exact xN (zd aD) _
   have G:X.1[qb]?=O (.map es d):=by rw[<-hX,xw aU];exact aC
   have C:X.1[q.1.size+1]?=O (Q8 x o):=by rw[<-hX,xw (by omega)];exact aB
   have aA:zk (fun k=>k=(q.1.size+1+1)) wr X:=by
    rw[<-hX];rcases aa with rfl|rfl
    ·exact qd _
    ·exact(zk.refl (fun k=>k=(q.1.size+1+1)) wr).drew.trans (qd _) (fun _ _ h=>h)
   have Q:zk (fun k=>k=q.1.size+1) W2 X:=hK.trans aA (fun i hi e=>by omega)
   rw[hX]at D
   have ai:=run_entry_at (P:=prog) X (q.1.size+1+1) qb d u es d e L G S (ud HM).once
   obtain⟨M,hk,hv⟩:=XY qZ (ud HM) S
   obtain⟨⟨n,y⟩,aE⟩:∃y,vK xz QL e=y:=⟨_,rfl⟩
   rw[aE]at M hk hv
   have U:e.key=yd n:=hk
   have a9:e.val=kZ y:=hv
   have aw:=ze U
   unfold yd at U
   unfold kZ at a9
   rw[U,a9]at D ai
   have al:=zd L
   have a5:=Q.heap (ud aP) (by omega)
   obtain⟨b2,b3,b4,b5,-⟩:=zc a5
   have bt:=zd a5
   have F:=zd C
   have a4:=fun W=>zeL ⟨y.kd,y.s⟩ x.key W
   have aq:X.1[q.1.size+1]?=O (.cells #[I J x.kd,I J x.s.t,I J x.s.se,I J x.s.we,I J x.si,I J x.tc,I J x.rest,I J o.1.ep,I J o.1.num,I J o.2.1,I J o.2.2] 51 (0,0)):=C
   obtain⟨-,-,-,-,-,-,-,q7,q8,q9,aG,-⟩:=zc aq
   have qf:=fun j=>zD aq j
   have HP:=ze (And.intro L (And.intro G (And.intro C (And.intro Q (And.intro A (And.intro S (And.intro M hr)))))))
   have hV:Below X.1.size X ((X.alloc (.cells #[I J n.ep,I J n.num] 49)).alloc (.cells #[I J y.kd,I J y.s.t,I J y.s.se,I J y.s.we,I J y.slot,I J y.til] 149)):=((Below.refl _ _).alloc (E _) _).alloc ((Below.refl _ _).alloc (E _) _).size _
   have HV:=ze hV
   have B:decide ((⟨y.kd,y.s⟩:Jk)=x.key)=true\/decide ((⟨y.kd,y.s⟩:Jk)=x.key)=false:=by cases decide ((⟨y.kd,y.s⟩:Jk)=x.key)<;>simp
   clear aF
   clear aD aC aB hX aa hk hv aE ap S aW U a9 af L G C Q aA hK ac hr ao A aq a5 hV
   rcases B with B|B
   ·have aY:=hu (n,y) M (by have:=of_decide_eq_true B;exact this)
    injection aY with e1 e2
    subst e1 e2
    simp only[B]at a4
    dsimp only[Tsk.key]at a4
    clear B M
    go_wp2_with fail
    obtain⟨z0,z1,zb,zz⟩:=box2 X (.cells #[I J n.ep,I J n.num] 49) (.cells #[I J y.kd,I J y.s.t,I J y.s.se,I J y.s.we,I J y.slot,I J y.til] 149)
    obtain⟨a1,a2,-⟩:=zc z0
    obtain⟨-,-,-,-,Z,a0,-⟩:=zc z1
    have bF:=(zb.cell (p:=⟨q.1.size+1,7,K⟩) F).trans q7
    have bG:=(zb.cell (p:=⟨q.1.size+1,8,K⟩) F).trans q8
    have bH:=(zb.cell (p:=⟨q.1.size+1,9,K⟩) F).trans q9
    have bb:=(zb.cell (p:=⟨q.1.size+1,10,K⟩) F).trans aG
    have bI:=fun j=>zD (show((X.alloc (.cells #[I J n.ep,I J n.num] 49)).alloc (.cells #[I J y.kd,I J y.s.t,I J y.s.se,I J y.s.we,I J y.slot,I J y.til] 149)).1[q.1.size+1]?=O (.cells #[I J x.kd,I J x.s.t,I J x.s.se,I J x.s.we,I J x.si,I J x.tc,I J x.rest,I J o.1.ep,I J o.1.num,I J o.2.1,I J o.2.2] 51 (0,0))from(zb.block _ F).trans (ud HP).2.2.1) j
    have l:¬X.1.size=q.1.size+1:=by omega
    have m:¬X.1.size+1=q.1.size+1:=by omega
    have bC:=zd z0
    have bD:=zd z1
    have bB:=Nat.lt_of_lt_of_le F zb.size
    clear z0 z1 zb zz q7 q8 q9 aG qf b2 b3 b4 b5 a4 D ai
    have b7:=al
    have b9:=F
    generalize bq:((X.alloc (.cells #[I J n.ep,I J n.num] 49)).alloc (.cells #[I J y.kd,I J y.s.t,I J y.s.se,I J y.s.we,I J y.slot,I J y.til] 149))=V at*
    have bd:=ze al
    have aL:=ze F
    have ba:¬qb=q.1.size+1:=by omega
    generalize ah:X.1.size=N at*
    have aO:=ze ah
    clear ah
    generalize Y:q.1.size+1=r at*
    have ay:=ze Y
    clear Y
    have be:((V.setCell ⟨r,7,K⟩ (I J n.ep)).setCell ⟨r,8,K⟩ (I J n.num)).drew.cell? ⟨N,0,K⟩=O (I J n.ep):=((zE l).trans (zE l)).trans a1
    have bf:((V.setCell ⟨r,7,K⟩ (I J n.ep)).setCell ⟨r,8,K⟩ (I J n.num)).drew.cell? ⟨N,1,K⟩=O (I J n.num):=((zE l).trans (zE l)).trans a2
    have bg:((V.setCell ⟨r,7,K⟩ (I J n.ep)).setCell ⟨r,8,K⟩ (I J n.num)).drew.cell? ⟨N+1,4,K⟩=O (I J y.slot):=((zE m).trans (zE m)).trans Z
    have bh:((V.setCell ⟨r,7,K⟩ (I J n.ep)).setCell ⟨r,8,K⟩ (I J n.num)).drew.cell? ⟨N+1,5,K⟩=O (I J y.til):=((zE m).trans (zE m)).trans a0
    have bi:(((V.setCell ⟨r,7,K⟩ (I J n.ep)).setCell ⟨r,8,K⟩ (I J n.num)).setCell ⟨r,9,K⟩ (I J y.slot)).drew.cell? ⟨N,0,K⟩=O (I J n.ep):=((zE l).trans ((zE l).trans (zE l))).trans a1
    have bj:(((V.setCell ⟨r,7,K⟩ (I J n.ep)).setCell ⟨r,8,K⟩ (I J n.num)).setCell ⟨r,9,K⟩ (I J y.slot)).drew.cell? ⟨N,1,K⟩=O (I J n.num):=((zE l).trans ((zE l).trans (zE l))).trans a2
    have bk:(((V.setCell ⟨r,7,K⟩ (I J n.ep)).setCell ⟨r,8,K⟩ (I J n.num)).setCell ⟨r,9,K⟩ (I J y.slot)).drew.cell? ⟨N+1,4,K⟩=O (I J y.slot):=((zE m).trans ((zE m).trans (zE m))).trans Z
    have bl:(((V.setCell ⟨r,7,K⟩ (I J n.ep)).setCell ⟨r,8,K⟩ (I J n.num)).setCell ⟨r,9,K⟩ (I J y.slot)).drew.cell? ⟨N+1,5,K⟩=O (I J y.til):=((zE m).trans ((zE m).trans (zE m))).trans a0
    have bm:((((V.setCell ⟨r,7,K⟩ (I J n.ep)).setCell ⟨r,8,K⟩ (I J n.num)).setCell ⟨r,9,K⟩ (I J y.slot)).setCell ⟨r,10,K⟩ (I J y.til)).drew.cell? ⟨N,0,K⟩=O (I J n.ep):=((zE l).trans ((zE l).trans ((zE l).trans (zE l)))).trans a1
    have bn:((((V.setCell ⟨r,7,K⟩ (I J n.ep)).setCell ⟨r,8,K⟩ (I J n.num)).setCell ⟨r,9,K⟩ (I J y.slot)).setCell ⟨r,10,K⟩ (I J y.til)).drew.cell? ⟨N,1,K⟩=O (I J n.num):=((zE l).trans ((zE l).trans ((zE l).trans (zE l)))).trans a2
    have bo:((((V.setCell ⟨r,7,K⟩ (I J n.ep)).setCell ⟨r,8,K⟩ (I J n.num)).setCell ⟨r,9,K⟩ (I J y.slot)).setCell ⟨r,10,K⟩ (I J y.til)).drew.cell? ⟨N+1,4,K⟩=O (I J y.slot):=((zE m).trans ((zE m).trans ((zE m).trans (zE m)))).trans Z
    have bp:((((V.setCell ⟨r,7,K⟩ (I J n.ep)).setCell ⟨r,8,K⟩ (I J n.num)).setCell ⟨r,9,K⟩ (I J y.slot)).setCell ⟨r,10,K⟩ (I J y.til)).drew.cell? ⟨N+1,5,K⟩=O (I J y.til):=((zE m).trans ((zE m).trans ((zE m).trans (zE m)))).trans a0
    go_region_held3 (fun w'=>w'.cell? ⟨N,0,K⟩=O (I J n.ep)/\w'.cell? ⟨N,1,K⟩=O (I J n.num)/\w'.cell? ⟨N+1,4,K⟩=O (I J y.slot)/\w'.cell? ⟨N+1,5,K⟩=O (I J y.til)) (first|go_keep|(dsimp only;refine⟨?_,?_,?_,?_⟩<;>(simp only[zht];repeat rw[zE (by assumption)];assumption))|exact⟨((zE l).trans (zE l)).trans a1,((zE l).trans (zE l)).trans a2,((zE m).trans (zE m)).trans Z,((zE m).trans (zE m)).trans a0⟩|exact⟨((zE l).trans ((zE l).trans (zE l))).trans a1,((zE l).trans ((zE l).trans (zE l))).trans a2,((zE m).trans ((zE m).trans (zE m))).trans Z,((zE m).trans ((zE m).trans (zE m))).trans a0⟩|exact⟨((zE l).trans ((zE l).trans ((zE l).trans (zE l)))).trans a1,((zE l).trans ((zE l).trans ((zE l).trans (zE l)))).trans a2,((zE m).trans ((zE m).trans ((zE m).trans (zE m)))).trans Z,((zE m).trans ((zE m).trans ((zE m).trans (zE m)))).trans a0⟩) (fail)
    go_wp2_with fail
    obtain⟨L,G,C,Q,A,S,M,hr⟩:=ud HP
    have hV:=ud HV
    have ah:X.1.size=N:=ud aO
    have Y:q.1.size+1=r:=ud ay
    subst Y
    subst ah
    have bv:=ud aL
    have kU:zk (fun k=>k=q.1.size+1) X ((((V.setCell ⟨q.1.size+1,7,K⟩ (I J n.ep)).setCell ⟨q.1.size+1,8,K⟩ (I J n.num)).setCell ⟨q.1.size+1,9,K⟩ (I J y.slot)).setCell ⟨q.1.size+1,10,K⟩ (I J y.til)):=zlB (zk.of_below (f:=fun k=>k=q.1.size+1) hV) (I J n.ep) (I J n.num) (I J y.slot) (I J y.til)
    have a7:=kU.heap L (by omega)
    have aZ:=kU.heap G (by omega)
    have aX:=zlF ((hV.block _ (zd C)).trans C) n.ep n.num y.slot y.til
    go_roundw
    case rel=>exact⟨_,_,_,a7,E _,aZ,aX,.inl rfl,(Q.trans kU (fun _ _ e=>e)).drew⟩
    case measure=>
     rw[xy (w:=(((((V.setCell ⟨q.1.size+1,7,K⟩ (I J n.ep)).setCell ⟨q.1.size+1,8,K⟩ (I J n.num)).setCell ⟨q.1.size+1,9,K⟩ (I J y.slot)).setCell ⟨q.1.size+1,10,K⟩ (I J y.til))).drew) a7,xy hr]
     exact ya (ud au)
   ·have aV:n≠t:=fun e=>by
     have h1:=(ud HM).nodup
     have h2:=xu h1 M
     have h3:=xu h1 hg
     rw[e,h3]at h2;injection h2 with h2
     rw[<-h2]at B
     rw[show(⟨g.kd,g.s⟩:Jk)=x.key from hj]at B
     simp at B
    simp only[B]at a4
    dsimp only[Tsk.key]at a4
    clear B M
    go_wp2_with fail
    obtain⟨L,G,C,Q,A,S,M,hr⟩:=ud HP
    have hV:=ud HV
    have a7:=(hV.block _ al).trans L
    refine⟨⟨_,_,o,a7,E _,(hV.block _ (zd G)).trans G,(hV.block _ F).trans C,?_,qS Q hV⟩,?_⟩
    ·rcases A with A|A
     ·exact .inl A
     ·refine .inr (fun a ha hs=>?_)
      rw[Array.toList_push,List.mem_append]at hs
      rcases hs with hs|hs
      ·exact A a ha hs
      ·rw[List.mem_singleton]at hs
       rw[zba (ud HM).once ha S hs,ud aw]
       exact fun e=>aV (zgR e)
    ·rw[xy a7,xy hr];exact ya (ud au)
end Go.Proofs.YtpbimdkclnekeaaGreat
