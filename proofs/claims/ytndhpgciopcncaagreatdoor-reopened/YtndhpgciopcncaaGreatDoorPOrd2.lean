import Derived.Test.YtndhpgciopcncaaGreatDoorPBrd2
import Derived.Deep.RegionHeld3
open Option renaming some → J
open Go renaming World → K
open Go renaming Value → E
open Go.RowKit renaming Below → Q
open Nat renaming le_refl → Y
open Go.RowKit.Below renaming refl → Z
set_option linter.unusedVariables false
set_option maxRecDepth 20000
set_option maxHeartbeats 4000000
open Go.Proofs.Tryz
namespace Go.Proofs.YtndhpgciopcncaaGreatDoor
open Go.ChangeMaps (setBlock)
open Go.RowKit Go.Maps Go.Shelf
theorem below_more{a w:K}(h:Q a.1.size a w)(o:Obj):Q a.1.size a (w.alloc o):=h.alloc h.size o
theorem zhO(W:K)(z:Obj):(W.alloc z).1[W.1.size]?=J z:=zp W z
theorem zcr(W:K)(z z2:Obj):((W.alloc z).alloc z2).1[W.1.size]?=J z:=(Below.heap_alloc _ _ _ (by simp)).trans (zp _ _)
theorem zcs(W:K)(z z2:Obj):((W.alloc z).alloc z2).1[W.1.size+1]?=J z2:=by have:=zp (W.alloc z) z2;rwa[zN]at this
abbrev kM(w:K)(g:Nat)(a b c d:E):K:=(((w.setCell (U g 0) a).setCell (U g 1) b).setCell (U g 2) c).setCell (U g 3) d
theorem JS{w:K}{g:Nat}{p q r s:E}{t:TypeId}{e:Nat×Nat}(h:w.1[g]?=J (.cells #[p,q,r,s] t e))(a b c d:E):(kM w g a b c d).1[g]?=J (.cells #[a,b,c,d] t e):=xy (i:=3) (xy (i:=2) (xy (i:=1) (xy (i:=0) h a) b) c) d
theorem JT{w:K}{g k:Nat}(h:k≠g)(a b c d:E):(kM w g a b c d).1[k]?=w.1[k]?:=by
 unfold kM
 rw[Below.heap_setCell _ (U g 3) _ _ h,Below.heap_setCell _ (U g 2) _ _ h,Below.heap_setCell _ (U g 1) _ _ h,Below.heap_setCell _ (U g 0) _ _ h]
theorem below4s{B:Nat}{w:K}{g:Nat}(h:B<=g)(a b c d:E):Q B w (kM w g a b c d):=((((Z _ _).setCell (p:=(U g 0)) h _).setCell (p:=(U g 1)) h _).setCell (p:=(U g 2)) h _).setCell (p:=(U g 3)) h _
theorem zes(w:K)(g:Nat)(a b c d:E):(kM w g a b c d).1.size=w.1.size:=by simp[kM]
theorem JA{w:K}{g:Nat}{p q r s:E}{t:TypeId}{e:Nat×Nat}(h:w.1[g]?=J (.cells #[p,q,r,s] t e))(a b c d:E)(o:Obj):((kM w g a b c d).alloc o).1[g]?=J (.cells #[a,b,c,d] t e):=
 (Below.heap_alloc _ _ _ (by rw[zes];exact zd h)).trans (JS h a b c d)
theorem znW(w:K)(g:Nat)(a b c d:E)(o:Obj):((kM w g a b c d).alloc o).1[w.1.size]?=J o:=by have:=zp (kM w g a b c d) o;rwa[zes]at this
theorem znX{w:K}{g:Nat}(h:w.1.size≠g)(a b c d:E)(o:Obj):(kM (w.alloc o) g a b c d).1[w.1.size]?=J o:=(JT h a b c d).trans (zp _ _)
theorem JC{w:K}{g:Nat}{p q r s:E}{t:TypeId}{e:Nat×Nat}(h:w.1[g]?=J (.cells #[p,q,r,s] t e))(a b c d:E)(o:Obj):(kM (w.alloc o) g a b c d).1[g]?=J (.cells #[a,b,c,d] t e):=
 JS ((Below.heap_alloc _ _ _ (zd h)).trans h) a b c d
theorem zab{w:K}{g k:Nat}{p q r s:E}{t:TypeId}{j:Nat×Nat}(hn:g≠k)(h:w.1[g]?=J (.cells #[p,q,r,s] t j))(a b c d e b' f i:E):(kM (kM w g a b c d) k e b' f i).1[g]?=J (.cells #[a,b,c,d] t j):=(JT hn e b' f i).trans (JS h a b c d)
theorem zac{w:K}{g k:Nat}{p q r s:E}{t:TypeId}{j:Nat×Nat}(hn:k≠g)(h:w.1[k]?=J (.cells #[p,q,r,s] t j))(a b c d e b' f i:E):(kM (kM w g a b c d) k e b' f i).1[k]?=J (.cells #[e,b',f,i] t j):=JS ((JT hn a b c d).trans h) e b' f i
theorem bel_aa{a:Nat}{w V:K}(h:Q a w V)(c:a<=V.1.size)(o b:Obj):Q a w ((V.alloc o).alloc b):=(h.alloc c o).alloc (by rw[zN];omega) b
theorem bel_sa{e g:Nat}{w V:K}(h:Q e w V)(f:e<=V.1.size)(i:e<=g)(a b c d:E)(o:Obj):Q e w ((kM V g a b c d).alloc o):=(h.trans (below4s i a b c d)).alloc (by rw[zes];exact f) o
theorem bel_as{e g:Nat}{w V:K}(h:Q e w V)(f:e<=V.1.size)(i:e<=g)(a b c d:E)(o:Obj):Q e w (kM (V.alloc o) g a b c d):=(h.alloc f o).trans (below4s i a b c d)
theorem bel_ss{e g k:Nat}{w V:K}(h:Q e w V)(l:e<=g)(m:e<=k)(a b c d f b' i j:E):Q e w (kM (kM V g a b c d) k f b' i j):=(h.trans (below4s l a b c d)).trans (below4s m f b' i j)
def qp(x y:Tsk):Int:=orL [vE x.kd y.kd,vE x.s.t y.s.t,vE x.s.sr y.s.sr,vE x.s.wn y.s.wn]
theorem zeP(x y:Tsk):orL [vE x.kd y.kd,zdZ x.s y.s]=qp x y:=by
 unfold qp zdZ
 simp only[orL]
 repeat' split
 all_goals omega
def yO(QL:List (Tok×Lse))(now:Int)(x:Tsk):Bool:=decide (x.rest<=now)&&!k7 QL x.key
theorem ziM{w:K}{b:Nat}{c:Cf}{tv:E}{ep num:Int}{tb qb:Nat}{TL:List (Jk×Tsk)}{QL:List (Tok×Lse)}(h:zC w b c tv ep num tb qb TL QL)(x:Tsk)(now:Int)(p:QL.length<=100000)
  (i g:Nat) (s:i<w.1.size) (t:g<w.1.size) (q:w.cell? (U i 0)=J (I now)) (r:w.cell? (U g 0)=J (O b)):
  Calls prog 98 #[.agg (tZz x),(O i),(O g)] w (Rz w (.bool (yO QL now x))):=by
 have n:=h.lt
 have d:Q w.1.size w (w.alloc (.cells (tZz x) 177)):=(Z _ _).alloc (Y _) _
 have l:=ze (zfn (h.later d) x p)
 have a:=ze d
 unfold yO
 obtain⟨m,f⟩:∃m,k7 QL x.key=m:=⟨_,rfl⟩
 rw[f]at l ⊢
 clear h f
 by_cases k:x.rest<=now
 ·rw[show(decide (x.rest<=now)&&!m)=!m by simp[k]]
  go_enter func98,ntmps98
  go_wp2_with fail
  refine(ud l).mono ?_
  rintro e u ⟨rfl,j⟩
  go_wp2_with fail
  go_ret
  exact⟨rfl,(ud a).trans (j.mono (ud a).size)⟩
 ·rw[show(decide (x.rest<=now)&&!m)=false by simp[k]]
  have o:decide (x.rest<=now)=false:=by simpa using k
  go_enter func98,ntmps98
  go_wp2_with fail
  go_ret
  exact⟨rfl,ud a⟩
theorem zbh:∀args w,(callFunc 98 args).run prog w=.ok (.enter 98 args) w:=enters_of func98 (by kernel_rfl) rfl
theorem zot(P:Program)(w:K)(a:Addr)(m:Mode)(fn:Fn)(first b:Array E):(store a (.func fn first b) m).run P w=stored P w a (.func fn first b) m:=_root_.Go.run_store P w a _ m rfl
attribute [local go_sem] zot
structure zgF(W:K)(b:Nat)(now:Int)(tight:Bool)(q:Nat):Prop where
 b0:W.1[q]?=J (.cells #[(O b)] 91 (0,0))
 b1:W.1[q+1]?=J (.cells #[I now] 3 (0,0))
 b2:W.1[q+2]?=J (.cells #[.bool tight] 4 (0,0))
 b3:W.1[q+3]?=J (.cells #[.func (.func 160) #[] #[(O q),(O (q+1))]] 244 (0,0))
theorem zgF.later{W d:K}{b:Nat}{now:Int}{a:Bool}{q:Nat}(h:zgF W b now a q)(c:Q W.1.size W d):zgF d b now a q:=
 ⟨(c.block _ (zd h.b0)).trans h.b0,(c.block _ (zd h.b1)).trans h.b1,(c.block _ (zd h.b2)).trans h.b2,(c.block _ (zd h.b3)).trans h.b3⟩
theorem ziI(b:Nat)(now:Int)(a:Bool)(w:K):
  Calls prog 101 #[(O b),I now,.bool a] w fun e w'=>e=.returned (.func (.func 161) #[] #[(O (w.1.size+2)),(O (w.1.size+3))])/\zgF w' b now a w.1.size/\Q w.1.size w w'/\w'.1.size=w.1.size+4:=by
 obtain⟨j,k,l,g,f⟩:=zmx w (.cells #[(O b)] 91) (.cells #[I now] 3) (.cells #[.bool a] 4)
 have h:=zp (((w.alloc (.cells #[(O b)] 91)).alloc (.cells #[I now] 3)).alloc (.cells #[.bool a] 4)) (.cells #[.func (.func 160) #[] #[(O w.1.size),(O (w.1.size+1))]] 244)
 have d:=g.alloc (show w.1.size<=_ by rw[f];omega) (.cells #[.func (.func 160) #[] #[(O w.1.size),(O (w.1.size+1))]] 244)
 have c:=zN (((w.alloc (.cells #[(O b)] 91)).alloc (.cells #[I now] 3)).alloc (.cells #[.bool a] 4)) (.cells #[.func (.func 160) #[] #[(O w.1.size),(O (w.1.size+1))]] 244)
 rw[f]at h c
 have z0:=(Below.heap_alloc (((w.alloc (.cells #[(O b)] 91)).alloc (.cells #[I now] 3)).alloc (.cells #[.bool a] 4)) (.cells #[.func (.func 160) #[] #[(O w.1.size),(O (w.1.size+1))]] 244) w.1.size (by rw[f];omega)).trans j
 have i:=(Below.heap_alloc (((w.alloc (.cells #[(O b)] 91)).alloc (.cells #[I now] 3)).alloc (.cells #[.bool a] 4)) (.cells #[.func (.func 160) #[] #[(O w.1.size),(O (w.1.size+1))]] 244) (w.1.size+1) (by rw[f];omega)).trans k
 have z2:=(Below.heap_alloc (((w.alloc (.cells #[(O b)] 91)).alloc (.cells #[I now] 3)).alloc (.cells #[.bool a] 4)) (.cells #[.func (.func 160) #[] #[(O w.1.size),(O (w.1.size+1))]] 244) (w.1.size+2) (by rw[f];omega)).trans l
 have m:=ze (And.intro z0 (And.intro i (And.intro z2 (And.intro h (And.intro d c)))))
 clear j k l g f h d c z0 i z2
 go_enter func101,ntmps101
 go_wp2_with fail
 go_ret
 obtain⟨z0,i,z2,h,d,c⟩:=ud m
 exact⟨rfl,⟨z0,i,z2,h⟩,d,c⟩
theorem zbe:∀args w,(callFunc 161 args).run prog w=.ok (.enter 161 args) w:=enters_of func161 (by kernel_rfl) rfl
theorem zdc{w:K}{g:Nat}{a0 u a2 a3 a4 a5 q p n a9 a:E}{t:TypeId}{k:Nat×Nat}(h:w.1[g]?=J (.cells #[a0,u,a2,a3,a4,a5,q,p,n,a9,a] t k))(b0 b c d e f j m o r l:E):(((((((((((w.setCell (U g 0) b0).setCell (U g 1) b).setCell (U g 2) c).setCell (U g 3) d).setCell (U g 4) e).setCell (U g 5) f).setCell (U g 6) j).setCell (U g 7) m).setCell (U g 8) o).setCell (U g 9) r).setCell (U g 10) l).1[g]?=J (.cells #[b0,b,c,d,e,f,j,m,o,r,l] t k):=by
 have v:(w.setCell (U g 0) b0).1[g]?=J (.cells #[b0,u,a2,a3,a4,a5,q,p,n,a9,a] t k):=xy (i:=0) h b0
 have x:((w.setCell (U g 0) b0).setCell (U g 1) b).1[g]?=J (.cells #[b0,b,a2,a3,a4,a5,q,p,n,a9,a] t k):=xy (i:=1) v b
 have y:(((w.setCell (U g 0) b0).setCell (U g 1) b).setCell (U g 2) c).1[g]?=J (.cells #[b0,b,c,a3,a4,a5,q,p,n,a9,a] t k):=xy (i:=2) x c
 have z:((((w.setCell (U g 0) b0).setCell (U g 1) b).setCell (U g 2) c).setCell (U g 3) d).1[g]?=J (.cells #[b0,b,c,d,a4,a5,q,p,n,a9,a] t k):=xy (i:=3) y d
 have A:(((((w.setCell (U g 0) b0).setCell (U g 1) b).setCell (U g 2) c).setCell (U g 3) d).setCell (U g 4) e).1[g]?=J (.cells #[b0,b,c,d,e,a5,q,p,n,a9,a] t k):=xy (i:=4) z e
 have B:((((((w.setCell (U g 0) b0).setCell (U g 1) b).setCell (U g 2) c).setCell (U g 3) d).setCell (U g 4) e).setCell (U g 5) f).1[g]?=J (.cells #[b0,b,c,d,e,f,q,p,n,a9,a] t k):=xy (i:=5) A f
 have C:(((((((w.setCell (U g 0) b0).setCell (U g 1) b).setCell (U g 2) c).setCell (U g 3) d).setCell (U g 4) e).setCell (U g 5) f).setCell (U g 6) j).1[g]?=J (.cells #[b0,b,c,d,e,f,j,p,n,a9,a] t k):=xy (i:=6) B j
 have D:((((((((w.setCell (U g 0) b0).setCell (U g 1) b).setCell (U g 2) c).setCell (U g 3) d).setCell (U g 4) e).setCell (U g 5) f).setCell (U g 6) j).setCell (U g 7) m).1[g]?=J (.cells #[b0,b,c,d,e,f,j,m,n,a9,a] t k):=xy (i:=7) C m
 have F:(((((((((w.setCell (U g 0) b0).setCell (U g 1) b).setCell (U g 2) c).setCell (U g 3) d).setCell (U g 4) e).setCell (U g 5) f).setCell (U g 6) j).setCell (U g 7) m).setCell (U g 8) o).1[g]?=J (.cells #[b0,b,c,d,e,f,j,m,o,a9,a] t k):=xy (i:=8) D o
 have G:((((((((((w.setCell (U g 0) b0).setCell (U g 1) b).setCell (U g 2) c).setCell (U g 3) d).setCell (U g 4) e).setCell (U g 5) f).setCell (U g 6) j).setCell (U g 7) m).setCell (U g 8) o).setCell (U g 9) r).1[g]?=J (.cells #[b0,b,c,d,e,f,j,m,o,r,a] t k):=xy (i:=9) F r
 have s:(((((((((((w.setCell (U g 0) b0).setCell (U g 1) b).setCell (U g 2) c).setCell (U g 3) d).setCell (U g 4) e).setCell (U g 5) f).setCell (U g 6) j).setCell (U g 7) m).setCell (U g 8) o).setCell (U g 9) r).setCell (U g 10) l).1[g]?=J (.cells #[b0,b,c,d,e,f,j,m,o,r,l] t k):=xy (i:=10) G l
 exact s
theorem zhk{B:Nat}{w:K}{g:Nat}(a:B<=g)(b0 c d e f h i j k l b:E):Q B w (((((((((((w.setCell (U g 0) b0).setCell (U g 1) c).setCell (U g 2) d).setCell (U g 3) e).setCell (U g 4) f).setCell (U g 5) h).setCell (U g 6) i).setCell (U g 7) j).setCell (U g 8) k).setCell (U g 9) l).setCell (U g 10) b):=((((((((((((Z _ _).setCell (p:=(U g 0)) a b0).setCell (p:=(U g 1)) a c).setCell (p:=(U g 2)) a d).setCell (p:=(U g 3)) a e).setCell (p:=(U g 4)) a f).setCell (p:=(U g 5)) a h).setCell (p:=(U g 6)) a i).setCell (p:=(U g 7)) a j).setCell (p:=(U g 8)) a k).setCell (p:=(U g 9)) a l).setCell (p:=(U g 10)) a b)
theorem zkH(w:K)(p:Addr):w.drew.cell? p=w.cell? p:=rfl
theorem zt{w:K}{g i k j:Nat}{v:E}(h:¬k=g):(w.setCell (U g i) v).cell? (U k j)=w.cell? (U k j):=by
 have:=zI (w:=w) (g:=g) (i:=i) (k:=k) (v:=v) h
 simp only[World.cell?,this]
def QP(x:Tsk)(o:Tok×Int×Int):Obj:=.cells #[I x.kd,I x.s.t,I x.s.sr,I x.s.wn,I x.se,I x.ti,I x.rest,I o.1.ep,I o.1.num,I o.2.1,I o.2.2] 51 (0,0)
theorem zqh{w:K}{g:Nat}{x:Tsk}{o:Tok×Int×Int}(h:w.1[g]?=J (QP x o))(a b c d:Int):((((w.setCell (U g 7) (I a)).setCell (U g 8) (I b)).setCell (U g 9) (I c)).setCell (U g 10) (I d)).1[g]?=J (QP x (⟨a,b⟩,c,d)):=
 xy (i:=10) (xy (i:=9) (xy (i:=8) (xy (i:=7) h (I a)) (I b)) (I c)) (I d)
theorem zqc{w V:K}{g:Nat}(h:zh (fun k=>k=g) w V)(a b c d:E):zh (fun k=>k=g) w ((((V.setCell (U g 7) a).setCell (U g 8) b).setCell (U g 9) c).setCell (U g 10) d):=
 zg (zg (zg (zg h rfl) rfl) rfl) rfl
theorem zez{w:K}{b:Nat}{c:Cf}{tv:E}{ep num:Int}{tb qb:Nat}{TL:List (Jk×Tsk)}{QL:List (Tok×Lse)}(h:zC w b c tv ep num tb qb TL QL)(x:Tsk)(t:Tok)(g:Lse)(hg:(t,g)∈QL)(hj:g.job=x.key)(hu:∀p∈QL,p.2.job=x.key->p=(t,g)):
  Calls prog 104 #[(O b),.agg (tZz x)] w (Rz w (.agg #[I x.kd,I x.s.t,I x.s.sr,I x.s.wn,I x.se,I x.ti,I x.rest,I t.ep,I t.num,I g.slot,I g.til])):=by
 have bw:=h.lt
 have aU:=h.cell10
 obtain⟨y0,y1,aD,yz⟩:=box2 w (.cells (tZz x) 177) zjY
 have aB:=ze (keyOf_any x ((w.alloc (.cells (tZz x) 177)).alloc zjY))
 have H:=ze h
 have Y0:=ze y0
 have Y1:=ze y1
 have an:=ze aD
 have YZ:=ze yz
 clear h y0 y1 aD yz
 go_enter func104,ntmps104
 go_wp2_with fail
 refine(ud aB).mono ?_
 rintro e q ⟨rfl,a7⟩
 have ax:=a7.size
 have yz:=ud YZ
 have t0:=(a7.block _ (by omega)).trans (ud Y0)
 have r0:=(a7.block _ (by omega)).trans (ud Y1)
 have ar:=(ud an).trans (a7.mono (ud an).size)
 have af:=(ud H).later ar
 have aV:=af.cell10
 have bv:=af.lt
 have bE:=zd t0
 have b4:=zd r0
 obtain⟨-,s1,s2,s3,-⟩:=zc t0
 have R0:=ze r0
 have aL:=ze ar
 have aN:=ze af
 clear a7 yz t0 r0 ar af aU Y0 Y1 an YZ aB
 --LOOP
 obtain⟨es,d,ah,ai⟩:=(ud aN).leases
 obtain⟨v0,v1,S,vz⟩:=box2 q (.cells #[I x.kd,I x.s.t,I x.s.sr,I x.s.wn] 162) (.cells #[I x.kd,I x.s.t,I x.s.sr,I x.s.wn,I x.se,I x.ti,I x.rest,I 0,I 0,I (-1),I 0] 51)
 have a0:=(S.block _ (zd ah)).trans ah
 have ak:=run_range_map (P:=prog) ((q.alloc (.cells #[I x.kd,I x.s.t,I x.s.sr,I x.s.wn] 162)).alloc (.cells #[I x.kd,I x.s.t,I x.s.sr,I x.s.wn,I x.se,I x.ti,I x.rest,I 0,I 0,I (-1),I 0] 51)) 168 _ _ qb es d underlying168 a0
 have az:=ze (And.intro v0 (And.intro v1 (And.intro S (And.intro vz (And.intro a0 ai)))))
 have bC:=zd ah
 clear ah ai v0 v1 S vz a0
 go_wp2_with fail
 obtain⟨v0,v1,S,vz,a0,ai⟩:=ud az
 generalize((q.alloc (.cells #[I x.kd,I x.s.t,I x.s.sr,I x.s.wn] 162)).alloc (.cells #[I x.kd,I x.s.t,I x.s.sr,I x.s.wn,I x.se,I x.ti,I x.rest,I 0,I 0,I (-1),I 0] 51))=W2 at*
 have b5:=(S.block _ b4).trans (ud R0)
 have ba:=S.size
 clear ak aV s1 s2 s3 az
 have HM:=ze ai
 have bg:=ze a0
 have aT:=ze v0
 have aM:=ze S
 have ao:=ze vz
 have aQ:=ze b5
 go_loopw [7,8] (fun _ _ wr=>∃(u:Array Nat) (c0:Nat) (o:Tok×Int×Int),wr.1[(q.1.size+1+1)]?=J (.mapIter (J qb) d u c0)/\d<=c0/\wr.1[qb]?=J (.map es d)/\wr.1[q.1.size+1]?=J (QP x o)/\(o=(t,g.slot,g.til)\/∀e∈es.toList,e.born∈u.toList->e.key≠yo t)/\zh (fun k=>k=q.1.size+1) W2 wr)
  (fun _ _ wr=>jR es (q.1.size+1+1) wr)
 case atStart=>
  have aq:Q W2.1.size W2 (W2.alloc (.mapIter (J qb) d #[] d)):=(Z _ _).alloc (Y _) _
  refine⟨#[],d,(⟨0,0⟩,-1,0),by have:=zp W2 (.mapIter (J qb) d #[] d);rw[show W2.1.size=(q.1.size+1+1)from ud ao]at this;exact this,Y _,(aq.block _ (zd a0)).trans a0,(aq.block _ (zd v1)).trans v1,.inr (by simp),zh.of_below aq⟩
 case round=>
  obtain⟨u,c0,o,hr,au,aj,ag,A,hK⟩:=hrel
  have bD:=zd hr
  have aJ:W2.1.size=(q.1.size+1+1):=ud ao
  rcases run_next_at (P:=prog) wr 0 (q.1.size+1+1) qb d c0 u es d hr aj (ud HM).born au with⟨hz,D⟩|⟨e,av,w1,ae,D⟩
  ·have ho:o=(t,g.slot,g.til):=by
    rcases A with A|A
    ·exact A
    ·exfalso
     obtain⟨z,ax,aX,_⟩:=zhH (ud HM) hg
     refine A z ax ?_ aX
     by_cases hs:z.born∈u.toList
     ·exact hs
     ·have:z∈(leftOf es u).toList:=xw.2 ⟨ax,hs⟩
      rw[Array.eq_empty_of_size_eq_zero hz]at this
      simp at this
   subst ho
   have ac:=hK.heap (k:=w.1.size+1) (ud aQ) (by omega)
   have aa:wr.1[q.1.size+1]?=J (.cells #[I x.kd,I x.s.t,I x.s.sr,I x.s.wn,I x.se,I x.ti,I x.rest,I t.ep,I t.num,I g.slot,I g.til] 51 (0,0)):=ag
   obtain⟨o0,o1,o2,o3,o4,o5,o6,o7,o8,o9,bI,-⟩:=zc aa
   obtain⟨z0,z1,z2,z3,z4,z5,z6,z7,z8,z9,bN,-⟩:=zc ac
   have zf:=fun j=>zv ac j
   have bB:=zd ac
   have bz:=zd aa
   have bc:¬q.1.size+1=w.1.size+1:=by omega
   have aO:=ze hK
   have aR:=ze ac
   clear aJ
   clear hz ag aa hK ac hr aj au A
   go_wp2_with fail
   have hf:=zdc (ud aR) (I x.kd) (I x.s.t) (I x.s.sr) (I x.s.wn) (I x.se) (I x.ti) (I x.rest) (I t.ep) (I t.num) (I g.slot) (I g.til)
   have hk:=ud aO
   have aW:Q w.1.size W2 wr:=⟨hk.os,hk.tape,hk.output,hk.size,fun j hj=>hk.block j (by have:=ud ao;omega) (by omega)⟩
   have hbb:=(ud aL).trans (((ud aM).mono (by omega)).trans aW)
   refine bodyPost_ret (v:=.agg #[I x.kd,I x.s.t,I x.s.sr,I x.s.wn,I x.se,I x.ti,I x.rest,I t.ep,I t.num,I g.slot,I g.til]) (results_cell_row results104 _ _ (w.1.size+1) _ _ _ _ rfl hf underlying51 rfl (by kernel_rfl)) rfl ?_
   exact⟨rfl,hbb.trans (zhk (Nat.le_succ _) (I x.kd) (I x.s.t) (I x.s.sr) (I x.s.wn) (I x.se) (I x.ti) (I x.rest) (I t.ep) (I t.num) (I g.slot) (I g.til))⟩
  ·have ay:=ze av
   obtain⟨T,b0⟩:=xw.1 av
   have aH:w1.1[(q.1.size+1+1)]?=J (.mapIter (J qb) d u c0):=by rcases ae with rfl|rfl<;>exact hr
   have aG:w1.1[qb]?=J (.map es d):=by rcases ae with rfl|rfl<;>exact aj
   have aF:w1.1[q.1.size+1]?=J (QP x o):=by rcases ae with rfl|rfl<;>exact ag
   have aY:qb≠(q.1.size+1+1):=by omega
   obtain⟨X,hX⟩:∃X,setBlock w1 (q.1.size+1+1) (.mapIter (J qb) d (u.push e.born) d)=X:=⟨_,rfl⟩
   have L:X.1[(q.1.size+1+1)]?=J (.mapIter (J qb) d (u.push e.born) d):=by rw[<-hX];exact xL (zd aH) _
   have G:X.1[qb]?=J (.map es d):=by rw[<-hX,xi aY];exact aG
   have C:X.1[q.1.size+1]?=J (QP x o):=by rw[<-hX,xi (by omega)];exact aF
   have aE:zh (fun k=>k=(q.1.size+1+1)) wr X:=by
    rw[<-hX];rcases ae with rfl|rfl
    ·exact xT _
    ·exact(zh.refl (fun k=>k=(q.1.size+1+1)) wr).drew.trans (xT _) (fun _ _ h=>h)
   have R:zh (fun k=>k=q.1.size+1) W2 X:=hK.trans aE (fun i hi e=>by omega)
   rw[hX]at D
   have am:=run_entry_at (P:=prog) X (q.1.size+1+1) qb d u es d e L G T (ud HM).once
   obtain⟨M,hk,hv⟩:=ZS yi (ud HM) T
   obtain⟨⟨n,y⟩,aI⟩:∃y,kj xF QL e=y:=⟨_,rfl⟩
   rw[aI]at M hk hv
   have a1:e.key=yo n:=hk
   have ad:e.val=vj y:=hv
   have aA:=ze a1
   unfold yo at a1
   unfold vj at ad
   rw[a1,ad]at D am
   have ap:=zd L
   have a9:=R.heap (ud aT) (by omega)
   obtain⟨b6,b7,b8,b9,-⟩:=zc a9
   have bx:=zd a9
   have F:=zd C
   have a8:=fun W=>zhI ⟨y.kd,y.s⟩ x.key W
   have aw:X.1[q.1.size+1]?=J (.cells #[I x.kd,I x.s.t,I x.s.sr,I x.s.wn,I x.se,I x.ti,I x.rest,I o.1.ep,I o.1.num,I o.2.1,I o.2.2] 51 (0,0)):=C
   obtain⟨-,-,-,-,-,-,-,q7,q8,q9,aK,-⟩:=zc aw
   have qf:=fun j=>zv aw j
   have HP:=ze (And.intro L (And.intro G (And.intro C (And.intro R (And.intro A (And.intro T (And.intro M hr)))))))
   have hV:Q X.1.size X ((X.alloc (.cells #[I n.ep,I n.num] 49)).alloc (.cells (lZz y) 164)):=((Z _ _).alloc (Y _) _).alloc ((Z _ _).alloc (Y _) _).size _
   have HV:=ze hV
   have B:decide ((⟨y.kd,y.s⟩:Jk)=x.key)=true\/decide ((⟨y.kd,y.s⟩:Jk)=x.key)=false:=by cases decide ((⟨y.kd,y.s⟩:Jk)=x.key)<;>simp
   clear aJ
   clear aH aG aF hX ae hk hv aI av T b0 a1 ad aj L G C R aE hK ag hr au A aw a9 hV
   rcases B with B|B
   ·have b2:=hu (n,y) M (by have:=of_decide_eq_true B;exact this)
    injection b2 with e1 e2
    subst e1 e2
    simp only[B]at a8
    dsimp only[Tsk.key]at a8
    clear B M
    go_wp2_with fail
    obtain⟨z0,z1,zb,zz⟩:=box2 X (.cells #[I n.ep,I n.num] 49) (.cells (lZz y) 164)
    obtain⟨a5,a6,-⟩:=zc z0
    obtain⟨-,-,-,-,a3,a4,-⟩:=zc z1
    have bJ:=(zb.cell (p:=(U (q.1.size+1) 7)) F).trans q7
    have bK:=(zb.cell (p:=(U (q.1.size+1) 8)) F).trans q8
    have bL:=(zb.cell (p:=(U (q.1.size+1) 9)) F).trans q9
    have bf:=(zb.cell (p:=(U (q.1.size+1) 10)) F).trans aK
    have bM:=fun j=>zv (show((X.alloc (.cells #[I n.ep,I n.num] 49)).alloc (.cells (lZz y) 164)).1[q.1.size+1]?=J (.cells #[I x.kd,I x.s.t,I x.s.sr,I x.s.wn,I x.se,I x.ti,I x.rest,I o.1.ep,I o.1.num,I o.2.1,I o.2.2] 51 (0,0))from(zb.block _ F).trans (ud HP).2.2.1) j
    have l:¬X.1.size=q.1.size+1:=by omega
    have m:¬X.1.size+1=q.1.size+1:=by omega
    have bG:=zd z0
    have bH:=zd z1
    have bF:=Nat.lt_of_lt_of_le F zb.size
    clear z0 z1 zb zz q7 q8 q9 aK qf b6 b7 b8 b9 a8 D am
    have bb:=ap
    have bd:=F
    generalize bu:((X.alloc (.cells #[I n.ep,I n.num] 49)).alloc (.cells (lZz y) 164))=V at*
    have bh:=ze ap
    have aP:=ze F
    have be:¬qb=q.1.size+1:=by omega
    generalize al:X.1.size=N at*
    have aS:=ze al
    clear al
    generalize a2:q.1.size+1=r at*
    have aC:=ze a2
    clear a2
    have bi:((V.setCell (U r 7) (I n.ep)).setCell (U r 8) (I n.num)).drew.cell? (U N 0)=J (I n.ep):=((zt l).trans (zt l)).trans a5
    have bj:((V.setCell (U r 7) (I n.ep)).setCell (U r 8) (I n.num)).drew.cell? (U N 1)=J (I n.num):=((zt l).trans (zt l)).trans a6
    have bk:((V.setCell (U r 7) (I n.ep)).setCell (U r 8) (I n.num)).drew.cell? (U (N+1) 4)=J (I y.slot):=((zt m).trans (zt m)).trans a3
    have bl:((V.setCell (U r 7) (I n.ep)).setCell (U r 8) (I n.num)).drew.cell? (U (N+1) 5)=J (I y.til):=((zt m).trans (zt m)).trans a4
    have bm:(((V.setCell (U r 7) (I n.ep)).setCell (U r 8) (I n.num)).setCell (U r 9) (I y.slot)).drew.cell? (U N 0)=J (I n.ep):=((zt l).trans ((zt l).trans (zt l))).trans a5
    have bn:(((V.setCell (U r 7) (I n.ep)).setCell (U r 8) (I n.num)).setCell (U r 9) (I y.slot)).drew.cell? (U N 1)=J (I n.num):=((zt l).trans ((zt l).trans (zt l))).trans a6
    have bo:(((V.setCell (U r 7) (I n.ep)).setCell (U r 8) (I n.num)).setCell (U r 9) (I y.slot)).drew.cell? (U (N+1) 4)=J (I y.slot):=((zt m).trans ((zt m).trans (zt m))).trans a3
    have bp:(((V.setCell (U r 7) (I n.ep)).setCell (U r 8) (I n.num)).setCell (U r 9) (I y.slot)).drew.cell? (U (N+1) 5)=J (I y.til):=((zt m).trans ((zt m).trans (zt m))).trans a4
    have bq:((((V.setCell (U r 7) (I n.ep)).setCell (U r 8) (I n.num)).setCell (U r 9) (I y.slot)).setCell (U r 10) (I y.til)).drew.cell? (U N 0)=J (I n.ep):=((zt l).trans ((zt l).trans ((zt l).trans (zt l)))).trans a5
    have br:((((V.setCell (U r 7) (I n.ep)).setCell (U r 8) (I n.num)).setCell (U r 9) (I y.slot)).setCell (U r 10) (I y.til)).drew.cell? (U N 1)=J (I n.num):=((zt l).trans ((zt l).trans ((zt l).trans (zt l)))).trans a6
    have bs:((((V.setCell (U r 7) (I n.ep)).setCell (U r 8) (I n.num)).setCell (U r 9) (I y.slot)).setCell (U r 10) (I y.til)).drew.cell? (U (N+1) 4)=J (I y.slot):=((zt m).trans ((zt m).trans ((zt m).trans (zt m)))).trans a3
    have bt:((((V.setCell (U r 7) (I n.ep)).setCell (U r 8) (I n.num)).setCell (U r 9) (I y.slot)).setCell (U r 10) (I y.til)).drew.cell? (U (N+1) 5)=J (I y.til):=((zt m).trans ((zt m).trans ((zt m).trans (zt m)))).trans a4
    go_region_held3 (fun w'=>w'.cell? (U N 0)=J (I n.ep)/\w'.cell? (U N 1)=J (I n.num)/\w'.cell? (U (N+1) 4)=J (I y.slot)/\w'.cell? (U (N+1) 5)=J (I y.til)) (first|go_keep|(dsimp only;refine⟨?_,?_,?_,?_⟩<;>(simp only[zkH];repeat rw[zt (by assumption)];assumption))|exact⟨((zt l).trans (zt l)).trans a5,((zt l).trans (zt l)).trans a6,((zt m).trans (zt m)).trans a3,((zt m).trans (zt m)).trans a4⟩|exact⟨((zt l).trans ((zt l).trans (zt l))).trans a5,((zt l).trans ((zt l).trans (zt l))).trans a6,((zt m).trans ((zt m).trans (zt m))).trans a3,((zt m).trans ((zt m).trans (zt m))).trans a4⟩|exact⟨((zt l).trans ((zt l).trans ((zt l).trans (zt l)))).trans a5,((zt l).trans ((zt l).trans ((zt l).trans (zt l)))).trans a6,((zt m).trans ((zt m).trans ((zt m).trans (zt m)))).trans a3,((zt m).trans ((zt m).trans ((zt m).trans (zt m)))).trans a4⟩) (fail)
    go_wp2_with fail
    obtain⟨L,G,C,R,A,T,M,hr⟩:=ud HP
    have hV:=ud HV
    have al:X.1.size=N:=ud aS
    have a2:q.1.size+1=r:=ud aC
    subst a2
    subst al
    have bA:=ud aP
    have kU:zh (fun k=>k=q.1.size+1) X ((((V.setCell (U (q.1.size+1) 7) (I n.ep)).setCell (U (q.1.size+1) 8) (I n.num)).setCell (U (q.1.size+1) 9) (I y.slot)).setCell (U (q.1.size+1) 10) (I y.til)):=zqc (zh.of_below (f:=fun k=>k=q.1.size+1) hV) (I n.ep) (I n.num) (I y.slot) (I y.til)
    have ab:=kU.heap L (by omega)
    have b3:=kU.heap G (by omega)
    have b1:=zqh ((hV.block _ (zd C)).trans C) n.ep n.num y.slot y.til
    go_roundw
    case rel=>exact⟨_,_,_,ab,Y _,b3,b1,.inl rfl,(R.trans kU (fun _ _ e=>e)).drew⟩
    case measure=>
     rw[xn (w:=(((((V.setCell (U (q.1.size+1) 7) (I n.ep)).setCell (U (q.1.size+1) 8) (I n.num)).setCell (U (q.1.size+1) 9) (I y.slot)).setCell (U (q.1.size+1) 10) (I y.til))).drew) ab,xn hr]
     exact qI (ud ay)
   ·have aZ:n≠t:=fun e=>by
     have h1:=(ud HM).nodup
     have h2:=xp h1 M
     have h3:=xp h1 hg
     rw[e,h3]at h2;injection h2 with h2
     rw[<-h2]at B
     rw[show(⟨g.kd,g.s⟩:Jk)=x.key from hj]at B
     simp at B
    simp only[B]at a8
    dsimp only[Tsk.key]at a8
    clear B M
    go_wp2_with fail
    obtain⟨L,G,C,R,A,T,M,hr⟩:=ud HP
    have hV:=ud HV
    have ab:=(hV.block _ ap).trans L
    refine⟨⟨_,_,o,ab,Y _,(hV.block _ (zd G)).trans G,(hV.block _ F).trans C,?_,Zv R hV⟩,?_⟩
    ·rcases A with A|A
     ·exact .inl A
     ·refine .inr (fun a ha hs=>?_)
      rw[Array.toList_push,List.mem_append]at hs
      rcases hs with hs|hs
      ·exact A a ha hs
      ·rw[List.mem_singleton]at hs
       rw[zcJ (ud HM).once ha T hs,ud aA]
       exact fun e=>aZ (zjM e)
    ·rw[xn ab,xn hr];exact qI (ud ay)
end Go.Proofs.YtndhpgciopcncaaGreatDoor
