import Derived.Test.YtndhpgciopcncaaGreatDoorVStp7
import Derived.Test.YtndhpgciopcncaaGreatDoorRows
import Derived.WalkKit
import Derived.ProofKit
import Derived.OpenShut
import Derived.ChangeOld
import Derived.Below
import Derived.SizedLaws
import Derived.Test.YtndhpgciopcncaaGreatDoorVFencedFact
import Derived.Test.YtndhpgciopcncaaGreatDoorCards
import Derived.Test.YtndhpgciopcncaaGreatDoorTie
import Derived.Handed
import Derived.Handy
import Derived.Lay
import Derived.SevenTiedAt
open Go.Value renaming int → I
open Go.IntKind renaming i64 → J
open Nat renaming lt_of_lt_of_le → O
open Option renaming none → E
open Option renaming some → Q
set_option linter.unusedVariables false
set_option maxRecDepth 100000
set_option maxHeartbeats 8000000
open Go.Proofs.Tryz
namespace Go.Proofs.YtndhpgciopcncaaGreatDoor
open Go.RowKit Go.Maps Go.Shelf
def ziq(w:World)(a:Nat)(e:Ending)(w':World):Prop:=∃(c:Cf) (p B:Nat) (m:MS) (ns:List Nm),c.ok/\c.fits/\e=.returned (.pointer (Q ⟨p,0,E⟩))/\w.1.size<=B/\vC w' B p c 1 m ns a/\Below w.1.size w w'
theorem zbn(s le la wi ke qu:Int)(a:Option Addr)(n cap:Nat)(R T S:Nat->Int)(sa:Option Addr)(g A:Nat)(G:Nat->X8)(w:World)(r:Zz w)(h1: -9223372036854775808<=s/\s<=9223372036854775807)(h2: -9223372036854775808<=le/\le<=9223372036854775807)(h3: -9223372036854775808<=la/\la<=9223372036854775807)(h4: -9223372036854775808<=wi/\wi<=9223372036854775807)(h5: -9223372036854775808<=ke/\ke<=9223372036854775807)(h6: -9223372036854775808<=qu/\qu<=9223372036854775807)(N:TS w a n R T S)(hn:n<=140737488355328)(hF:∀i,i<n-> -9223372036854775808<=R i/\R i<=9223372036854775807)(hW:∀i,i<n-> -9223372036854775808<=T i/\T i<=9223372036854775807)(hK:∀i,i<n-> -9223372036854775808<=S i/\S i<=9223372036854775807)(K:KS w sa g G)(a8:g<4398046511104)(hG:∀i,i<g->(G i).fits):
  Calls prog 16 #[.agg #[I J s,I J le,I J la,I J wi,I J ke,I J qu,.slice a n cap],.slice sa g A] w (ziq w g):=by
 have k:Below w.1.size w (w.alloc (.cells #[I J s,I J le,I J la,I J wi,I J ke,I J qu,.slice a n cap] 27)):=(Below.refl _ _).alloc (Nat.le_refl _) _
 have q0:=zk w (.cells #[I J s,I J le,I J la,I J wi,I J ke,I J qu,.slice a n cap] 27)
 obtain⟨r0,r1,r2,r3,r4,r5,r6,-⟩:=zc q0
 have aa:=za q0
 have z:=zd (ZJ s le la wi ke qu a n cap R T S (w.alloc (.cells #[I J s,I J le,I J la,I J wi,I J ke,I J qu,.slice a n cap] 27)) (vx r k) h1 h2 h3 h4 h5 h6 (N.below k) hn hF hW hK)
 clear r
 have u:=zd k
 have W:=zd K
 have HG:=zd hG
 clear k q0 h1 h2 h3 h4 h5 h6 N hF hW hK K hG
 go_enter func16,ntmps16
 go_wp2_with fail
 generalize(w.alloc (.cells #[I J s,I J le,I J la,I J wi,I J ke,I J qu,.slice a n cap] 27))=X at*
 refine(ud z).mono ?_
 rintro e w1 ⟨c,p,hc,hf,rfl,f,D⟩
 have C:Below w.1.size w w1:=(ud u).trans (D.mono (ud u).size)
 have Y:=zd f
 have U:=zd C
 have a3:xg 1:=by unfold xg;omega
 have P:w.1.size<=X.1.size:=(ud u).size
 clear f D C z r0 r1 r2 r3 r4 r5 r6
 go_wp2_with fail
 go_loopw [6,7] (fun y _ wr=>∃(t:Nat) (m:MS) (ns:List Nm),t<=g/\y=I J t/\vC wr X.1.size p c 1 m ns t/\Below w.1.size w wr) (fun y _ _=>g-(intOf y).toNat)
 case atStart=>exact⟨0,_,[],Nat.zero_le _,rfl,ud Y,ud U⟩
 case round=>
  obtain⟨t,m,ns,ab,rfl,f,d⟩:=hrel
  have a9:(g:Int)<=4398046511104:=by omega
  by_cases L:t<g
  ·have a7:(t:Int)<g:=by omega
   obtain⟨b,l,a4,j,F⟩:=ud W (by omega)
   subst a4
   obtain⟨Z,g1,g2,g3⟩:=F t L
   have H:=ud HG t L
   generalize G t=o at*
   obtain⟨kd,oa,ob,ov⟩:=o
   obtain⟨fa,fb,fv⟩:=H
   dsimp only at Z g1 g2 g3 fa fb fv
   have y0:=(d.cell (p:=⟨b,l+t*4,E⟩) j).trans Z
   have y1:=(d.cell (p:=⟨b,l+t*4+1,E⟩) j).trans g1
   have y2:=(d.cell (p:=⟨b,l+t*4+2,E⟩) j).trans g2
   have y3:=(d.cell (p:=⟨b,l+t*4+3,E⟩) j).trans g3
   have ac:=O j d.size
   have h:=zd (Qh f hc hf a3 kd oa ob ov fa fb fv (by omega))
   have V:=zd d
   clear F f d Z g1 g2 g3
   go_wp2_with fail
   refine(ud h).mono ?_
   rintro e V2 ⟨rfl,hP⟩
   obtain⟨m1,m',a5,hA,a0,B,q,a1,a2⟩:=hP
   have x:=zd B
   have v:=zd ((ud V).trans (q.bel.mono P))
   clear B q hA a0 a1 a2 h y0 y1 y2 y3
   go_wp2_with fail
   go_roundw
   case rel=>exact⟨t+1,m',a5,by omega,by go_num,ud x,ud v⟩
   case measure=>simp[intOf];omega
  ·have a6:decide ((t:Int)<g)=false:=by simp;omega
   have M:t=g:=by omega
   have x:=zd f
   have v:=zd d
   clear f d
   go_wp2_with fail
   go_ret
   exact⟨c,p,_,m,ns,hc,hf,rfl,P,M▸ud x,ud v⟩
theorem KS.below{w w':World}{a:Option Addr}{n:Nat}{G:Nat->X8}(h:KS w a n G)(f:Below w.1.size w w'):KS w' a n G:=fun g=>by
 obtain⟨b,d,rfl,c,j⟩:=h g
 have e:∀o,w'.cell? ⟨b,o,E⟩=w.cell? ⟨b,o,E⟩:=fun o=>f.cell (p:=⟨b,o,E⟩) c
 exact⟨b,d,rfl,O c f.size,fun i k=>by simp only[e];exact j i k⟩
def zjw(k j:Nat)(t a:Tok):Prop:=a=⟨t.ep,-1⟩\/(a=t/\∀i,i<j->t≠⟨1,(i:Int)+1⟩)
theorem zjw.out{k:Nat}{t a:Tok}(h:zjw k k t a):a∉vW 1 k:=fun c=>by
 obtain⟨i,b,e⟩:=List.mem_map.1 c
 rcases h with rfl|⟨rfl,h⟩
 ·injection e with _ d;omega
 ·exact h i (by simpa using b) e.symm
theorem zjw.wf{k j:Nat}{t b:Tok}(h:zjw k j t b)(a:t.wf):b.wf:=by
 rcases h with rfl|⟨rfl,h⟩
 ·exact⟨a.1,by unfold xg;simp⟩
 ·exact a
theorem zaL(s le la wi ke qu:Int)(a:Option Addr)(n cap:Nat)(F0 W0 K0:Nat->Int)(sa:Option Addr)(n2 af:Nat)(G:Nat->X8)(S:Tok)(w:World)(a4:Zz w)(h1: -9223372036854775808<=s/\s<=9223372036854775807)(h2: -9223372036854775808<=le/\le<=9223372036854775807)(h3: -9223372036854775808<=la/\la<=9223372036854775807)(h4: -9223372036854775808<=wi/\wi<=9223372036854775807)(h5: -9223372036854775808<=ke/\ke<=9223372036854775807)(h6: -9223372036854775808<=qu/\qu<=9223372036854775807)(ae:TS w a n F0 W0 K0)(hn:n<=140737488355328)(hF:∀i,i<n-> -9223372036854775808<=F0 i/\F0 i<=9223372036854775807)(hW:∀i,i<n-> -9223372036854775808<=W0 i/\W0 i<=9223372036854775807)(hK:∀i,i<n-> -9223372036854775808<=K0 i/\K0 i<=9223372036854775807)(b7:KS w sa n2 G)(b8:n2<4398046511104)(hG:∀i,i<n2->(G i).fits)(bb:S.wf):
  Calls prog 8 #[.agg #[I J s,I J le,I J la,I J wi,I J ke,I J qu,.slice a n cap],.slice sa n2 af,.agg #[I J S.ep,I J S.num]] w fun e w'=>e=.returned (.bool true)/\Below w.1.size w w':=by
 obtain⟨q0,q1,Y,qz⟩:=box2 w (.cells #[I J s,I J le,I J la,I J wi,I J ke,I J qu,.slice a n cap] 27) (.cells #[I J S.ep,I J S.num] 49)
 obtain⟨r0,r1,r2,r3,r4,r5,r6,-⟩:=zc q0
 have bw:=za q0
 have aO:=zd (zbn s le la wi ke qu a n cap F0 W0 K0 sa n2 af G ((w.alloc (.cells #[I J s,I J le,I J la,I J wi,I J ke,I J qu,.slice a n cap] 27)).alloc (.cells #[I J S.ep,I J S.num] 49)) (vx a4 Y) h1 h2 h3 h4 h5 h6 (ae.below Y) hn hF hW hK (b7.below Y) b8 hG)
 have bK:=a4.lt
 clear a4
 have aI:=zd Y
 have Q1:=zd q1
 have QZ:=zd qz
 clear Y q0 q1 qz h1 h2 h3 h4 h5 h6 ae hF hW hK b7 hG
 go_enter func8,ntmps8
 go_wp2_with fail
 generalize((w.alloc (.cells #[I J s,I J le,I J la,I J wi,I J ke,I J qu,.slice a n cap] 27)).alloc (.cells #[I J S.ep,I J S.num] 49))=X at*
 refine(ud aO).mono ?_
 rintro e w1 ⟨c,p,B,m,ns,hc,hf,rfl,hB,bx,z⟩
 obtain⟨s0,k0,aA,aw,b5,l,b6,b9⟩:=bx
 have bm:xg 1:=by unfold xg;omega
 have hz:X.1.size=w.1.size+2:=ud QZ
 have bB:=z.size
 have t1:=(z.block (w.1.size+1) (by omega)).trans (ud Q1)
 have b0:Below w.1.size w w1:=(ud aI).trans (z.mono (by omega))
 have T1:=zd t1
 have V:=zd aw
 have aN:=zd l
 have aj:=zd b0
 obtain⟨ka,kc,ac⟩:=zL aw.krow
 rw[zF]at ac
 clear t1 aw l b0 z aO r0 r1 r2 r3 r4 r5 r6
 go_wp2_with fail
 go_loopw [8] (fun y wr=>∃(j:Nat) (P:Tok),j<=k0/\y=I J j/\wr.1[w.1.size+1]?=Q (.cells #[I J P.ep,I J P.num] 49 (0,0))/\zjw k0 j S P/\zo (fun q=>q=w.1.size+1) w1 wr) (fun y _=>k0-(intOf y).toNat)
 case atStart=>exact⟨0,S,Nat.zero_le _,rfl,ud T1,.inr ⟨rfl,fun i hi=>absurd hi (Nat.not_lt_zero _)⟩,zo.refl _ _⟩
 case round=>
  obtain⟨j,P,hj,rfl,N,ax,hK⟩:=hrel
  have hS:=(ud V).kept hK (fun q hq e=>by have:=(ud V).foot_lo q hq;omega) (fun q hq e=>by have:=(ud V).mlo q hq;omega) (fun e=>by have e9:Qm=w.1.size+1:=e;omega)
  obtain⟨K,-,-,-,-,-,-,-,aH,-⟩:=hS.cells
  have k:=hS.lt
  rw[aA]at K aH k
  rw[ac]at aH
  have br:(k0:Int)<=4398046511104:=by omega
  have H:=za N
  obtain⟨u0,u1,-⟩:=zc N
  have uf:=fun i=>zC N i
  have HS:=zd hS
  have am:=zd N
  have HK:=zd hK
  have T:=zd ax
  by_cases ad:j<k0
  ·have bJ:(j:Int)<k0:=by omega
   have ay:=hS.krow
   rw[ac]at ay
   obtain⟨g,bE,hv,bP,t0,t1⟩:=qK ay (j:=j) (by rw[zF];exact ad)
   have aG:ka=Q ⟨g,0,E⟩:=by injection hv
   have e0:(vW 1 k0)[j]'(by rw[zF];exact ad)=⟨1,(j:Int)+1⟩:=by simp[vW]
   rw[e0]at t0 t1
   dsimp only at t0 t1
   subst aG
   clear hS N hK ax ay hv e0
   by_cases ab:P=⟨1,(j:Int)+1⟩
   ·subst ab
    dsimp only at u0 u1 ⊢
    have b1:((1:Int)==1)=true:=rfl
    have b2:(((j:Int)+1)==(j:Int)+1)=true:=by simp
    have b3:S.ep=1:=by rcases ud T with e|⟨e,_⟩;(injection e with e1 e2;exact e1.symm);(rw[<-e])
    have bj:=zd b3
    have bQ:¬w.1.size+1=p:=by have:=(ud V).lo;omega
    clear b3
    go_wp2_with fail
    go_still (by kernel_rfl)
    go_wp2_with fail
    go_roundw
    case rel=>
     refine⟨j+1,⟨1,-1⟩,by omega,by go_num,xy (i:=1) (ud am) _,.inl (by rw[ud bj]),(zn (ud HK) rfl).drew⟩
    case measure=>simp[intOf];omega
   ·have hd:(1==P.ep)=false\/((1==P.ep)=true/\(((j:Int)+1)==P.num)=false):=by
     obtain⟨te,tn⟩:=P
     by_cases e1:1=te
     ·refine .inr ⟨by simp[e1],?_⟩
      have:¬(j:Int)+1=tn:=fun e=>ab (by rw[<-e1,<-e])
      simpa using this
     ·exact .inl (by simpa using e1)
    have bk:=zd ab
    clear ab
    rcases hd with hd|⟨bO,hd⟩
    all_goals
     go_wp2_with fail
     go_still (by kernel_rfl)
     go_wp2_with fail
     go_roundw
     case rel=>
      refine⟨j+1,P,by omega,by go_num,ud am,?_,(ud HK).drew⟩
      rcases ud T with e|⟨e,h⟩
      ·exact .inl e
      ·refine .inr ⟨e,fun i hi=>?_⟩
       by_cases bo:i=j
       ·subst bo;rw[<-e];exact ud bk
       ·exact h i (by omega)
     case measure=>simp[intOf];omega
  ·have bq:j=k0:=by omega
   subst bq
   have ba:decide ((j:Int)<j)=false:=by simp
   clear hS N hK ax
   have l:=ud aN
   have bc:=l.ok.seg.u0 hc
   have bs:=l.ok.seg.len400 hc
   have bz:=l.ok.t800 hc
   have hM:=(ud HS).mill
   have bf:=(ud T).wf bb
   have b4:zY m.QL P=E:=l.epoch (by rw[b5];exact(ud T).out)
   have HM:=zd hM
   have HU:=zd (And.intro bc.1 (show zm m.L<=1000 by omega))
   have M:=zd (And.intro l.ok.jobs (show m.TL.length<=1000000 by omega))
   have av:m.L.length<=100000:=by omega
   have U:=zd (And.intro (fun p hp=>(l.ok.td p hp).key) l.ok.nt)
   have W:=zd (And.intro bf b4)
   have aJ:=zd (show Below w.1.size w wr from(ud aj).trans ⟨(ud HK).os,(ud HK).tape,(ud HK).output,(ud HK).size,fun q hq=>(ud HK).block q (O hq (ud aj).size) (by omega)⟩)
   have bD:¬s0.i.x=p:=fun e=>(ud HS).sep s0.i.x (.inl (by rw[e,aA])) (.inl (.inl rfl))
   have bv:¬p=w.1.size+1:=by have:=(ud HS).lo;omega
   clear hM bf b4 bc bs bz l uf T V T1 aj HK bm b9 b6 b5 hB bB hz QZ Q1 aI bw hn b8 bb hf br am
   go_wp2_with fail
   refine(xI (ud HM) hc (ud HU) av).mono ?_
   rintro e V1 ⟨rfl,z⟩
   clear aH
   have a5:Below wr.1.size wr (V1.alloc (.cells #[I J m.now,I J (zm m.L),I J (zU (zO (zm m.L) c.qu)),I J 1,I J (ze m.L 1),I J (ze m.L 2),I J (ze m.L 3),I J m.Gl.length] 37)):=z.alloc z.size _
   have a0:=(a5.cell (p:=⟨p,0,E⟩) k).trans K
   have al:=O k a5.size
   have aU:=zd (zk V1 (.cells #[I J m.now,I J (zm m.L),I J (zU (zO (zm m.L) c.qu)),I J 1,I J (ze m.L 1),I J (ze m.L 2),I J (ze m.L 3),I J m.Gl.length] 37))
   have aB:V1.1.size<(V1.alloc (.cells #[I J m.now,I J (zm m.L),I J (zU (zO (zm m.L) c.qu)),I J 1,I J (ze m.L 1),I J (ze m.L 2),I J (ze m.L 3),I J m.Gl.length] 37)).1.size:=by rw[zI];omega
   have an:=zd a5
   have aK:=zd (KV ((ud HM).later a5) (ud M).1 (ud M).2)
   clear z a5
   go_wp2_with fail
   generalize(V1.alloc (.cells #[I J m.now,I J (zm m.L),I J (zU (zO (zm m.L) c.qu)),I J 1,I J (ze m.L 1),I J (ze m.L 2),I J (ze m.L 3),I J m.Gl.length] 37))=Z1 at*
   refine(ud aK).mono ?_
   rintro e V2 ⟨ts,a2,bl,hJ,rfl,ai,a9⟩
   have C:=(ud an).trans (a9.mono (ud an).size)
   have d0:=(C.cell (p:=⟨p,0,E⟩) k).trans K
   have dl:=O k C.size
   have d1:=(C.cell (p:=⟨w.1.size+1,0,E⟩) H).trans u0
   have d2:=(C.cell (p:=⟨w.1.size+1,1,E⟩) H).trans u1
   have dt:=O H C.size
   have aV:=zd ((a9.block _ aB).trans (ud aU))
   have aC:=O aB a9.size
   have HJ:=zd hJ
   have aP:=zd ai
   have ao:=zd C
   have HC:=zd (Ku ((ud HM).later C.drew) P (ud W).1 (ud W).2)
   clear a9 C hJ ai aK a0 al aB aU
   go_wp2_with fail
   refine xh 5 (by kernel_rfl) (by kernel_rfl) ?_
   simp only[List.take_succ_cons,List.take_zero,List.drop_succ_cons,List.drop_zero]
   repeat still_step
   refine wpStill_nil ?_
   go_wp2_with fail
   refine(ud HC).mono ?_
   rintro e V3 ⟨rfl,ag⟩
   have Z:=ZS ag
   clear ag
   have D:=(ud ao).trans (Z.mono (ud ao).size)
   have e0:=(D.cell (p:=⟨p,0,E⟩) k).trans K
   have el:=O k D.size
   have e1:=(D.cell (p:=⟨w.1.size+1,0,E⟩) H).trans u0
   have e2:=(D.cell (p:=⟨w.1.size+1,1,E⟩) H).trans u1
   have et:=O H D.size
   have aW:=zd ((Z.block _ aC).trans (ud aV))
   have aD:=O aC Z.size
   have aQ:=zd (zg (ud aP) (zo.of_below (f:=fun _=>False) Z) (fun _ _ e=>e))
   have ap:=zd D
   have HF:=zd (zcQ ((ud HM).later D.drew) P (ud W).1 (ud W).2)
   clear Z D HC aP aV aC d0 dl d1 d2 dt
   go_wp2_with fail
   refine xh 5 (by kernel_rfl) (by kernel_rfl) ?_
   simp only[List.take_succ_cons,List.take_zero,List.drop_succ_cons,List.drop_zero]
   repeat still_step
   refine wpStill_nil ?_
   go_wp2_with fail
   refine(ud HF).mono ?_
   rintro e V4 ⟨rfl,ah⟩
   have a1:=ZS ah
   clear ah
   have a7:=(ud ap).trans (a1.mono (ud ap).size)
   have f0:=(a7.cell (p:=⟨p,0,E⟩) k).trans K
   have fl:=O k a7.size
   have aX:=zd ((a1.block _ aD).trans (ud aW))
   have aE:=O aD a1.size
   have aR:=zd (zg (ud aQ) (zo.of_below (f:=fun _=>False) a1) (fun _ _ e=>e))
   have aq:=zd a7
   have aT:=zd (xI ((ud HM).later a7) hc (ud HU) av)
   clear a1 a7 HF aQ aW aD e0 el e1 e2 et
   go_wp2_with fail
   refine(ud aT).mono ?_
   rintro e V5 ⟨rfl,aa⟩
   have A:Below V4.1.size V4 (V5.alloc (.cells #[I J m.now,I J (zm m.L),I J (zU (zO (zm m.L) c.qu)),I J 1,I J (ze m.L 1),I J (ze m.L 2),I J (ze m.L 3),I J m.Gl.length] 37)):=aa.alloc aa.size _
   have a8:=(ud aq).trans (A.mono (ud aq).size)
   have g0:=(a8.cell (p:=⟨p,0,E⟩) k).trans K
   have gl:=O k a8.size
   have aY:=zd ((A.block _ aE).trans (ud aX))
   have aF:=O aE A.size
   have aM:=zd (zk V5 (.cells #[I J m.now,I J (zm m.L),I J (zU (zO (zm m.L) c.qu)),I J 1,I J (ze m.L 1),I J (ze m.L 2),I J (ze m.L 3),I J m.Gl.length] 37))
   have az:V5.1.size<(V5.alloc (.cells #[I J m.now,I J (zm m.L),I J (zU (zO (zm m.L) c.qu)),I J 1,I J (ze m.L 1),I J (ze m.L 2),I J (ze m.L 3),I J m.Gl.length] 37)).1.size:=by rw[zI];omega
   have aG:¬V1.1.size=V5.1.size:=by have:=aa.size;omega
   have aS:=zd (zg (ud aR) (zo.of_below (f:=fun _=>False) A) (fun _ _ e=>e))
   have ar:=zd a8
   have aL:=zd (KV ((ud HM).later a8) (ud M).1 (ud M).2)
   clear aa A a8 aT aR aX aE f0 fl
   go_wp2_with fail
   generalize(V5.alloc (.cells #[I J m.now,I J (zm m.L),I J (zU (zO (zm m.L) c.qu)),I J 1,I J (ze m.L 1),I J (ze m.L 2),I J (ze m.L 3),I J m.Gl.length] 37))=Z5 at*
   refine(ud aL).mono ?_
   rintro e V6 ⟨v,a6,bF,au,rfl,a3,F⟩
   have ae:v=ts:=au.one (ud HJ) (ud U).1 (ud U).2
   subst ae
   have bg:=(ud ar).trans (F.mono (ud ar).size)
   have u:=zd ((F.block _ aF).trans (ud aY))
   have bA:=O aF F.size
   have r:=zd ((F.block _ az).trans (ud aM))
   have bt:=O az F.size
   have bh:=zd (zg (ud aS) (zo.of_below (f:=fun _=>False) F) (fun _ _ e=>e))
   have bi:=zd a3
   have aZ:=zd ((ud aJ).trans (bg.mono (ud aJ).size))
   have H:v.length<=1000000:=by rw[au.len];exact(ud M).2
   clear F bg au a3 aL aS aY aM aF az g0 gl an ao ap aq ar HJ HM HU M U W HS aN K u0 u1 k
   generalize bC:V1.1.size=wb at*
   generalize bu:V5.1.size=nb at*
   clear bC bu
   obtain⟨w0,-⟩:=zc (ud u)
   obtain⟨v0,-⟩:=zc (ud r)
   obtain⟨-,w1,-⟩:=zc (ud u)
   obtain⟨-,v1,-⟩:=zc (ud r)
   obtain⟨-,-,w2,-⟩:=zc (ud u)
   obtain⟨-,-,v2,-⟩:=zc (ud r)
   obtain⟨-,-,-,w3,-⟩:=zc (ud u)
   obtain⟨-,-,-,v3,-⟩:=zc (ud r)
   obtain⟨-,-,-,-,w4,-⟩:=zc (ud u)
   obtain⟨-,-,-,-,v4,-⟩:=zc (ud r)
   obtain⟨-,-,-,-,-,w5,-⟩:=zc (ud u)
   obtain⟨-,-,-,-,-,v5,-⟩:=zc (ud r)
   obtain⟨-,-,-,-,-,-,w6,-⟩:=zc (ud u)
   obtain⟨-,-,-,-,-,-,v6,-⟩:=zc (ud r)
   obtain⟨-,-,-,-,-,-,-,w7,-⟩:=zc (ud u)
   obtain⟨-,-,-,-,-,-,-,v7,-⟩:=zc (ud r)
   have bL:=zd ad
   clear ac aA hj ad ba av hc bD bv
   go_wp2_with fail
   clear w0 v0 w1 v1 w2 v2 w3 v3 w4 v4 w5 v5 w6 v6 w7 v7 u r bA bt aG
   go_loopw [15] (fun y wr=>∃i:Nat,i<=v.length/\y=I J i/\Below V6.1.size V6 wr) (fun y _=>v.length-(intOf y).toNat)
   case atStart=>exact⟨0,Nat.zero_le _,rfl,Below.refl _ _⟩
   case round=>
    obtain⟨i,hi,rfl,hb⟩:=hrel
    by_cases bp:i<v.length
    ·have bI:(i:Int)<v.length:=by omega
     obtain⟨x,hx⟩:=yU bp
     obtain⟨R,ca,bd,bG,b⟩:=zgW (zg (ud bh) (zo.of_below (f:=fun _=>False) hb) (fun _ _ e=>e)) hx
     obtain⟨gb,cb,be,bH,d⟩:=zgW (zg (ud bi) (zo.of_below (f:=fun _=>False) hb) (fun _ _ e=>e)) hx
     have ea:a2=Q ⟨R,0,E⟩:=by injection bd
     have eb:a6=Q ⟨gb,0,E⟩:=by injection be
     subst ea
     subst eb
     have c0:wr.cell? ⟨R,i*11,E⟩=Q (I J x.kd):=b 0 (by omega)
     have d0:wr.cell? ⟨gb,i*11,E⟩=Q (I J x.kd):=d 0 (by omega)
     have c1:wr.cell? ⟨R,i*11+1,E⟩=Q (I J x.s.t):=b 1 (by omega)
     have d1:wr.cell? ⟨gb,i*11+1,E⟩=Q (I J x.s.t):=d 1 (by omega)
     have c2:wr.cell? ⟨R,i*11+2,E⟩=Q (I J x.s.sr):=b 2 (by omega)
     have d2:wr.cell? ⟨gb,i*11+2,E⟩=Q (I J x.s.sr):=d 2 (by omega)
     have c3:wr.cell? ⟨R,i*11+3,E⟩=Q (I J x.s.wa):=b 3 (by omega)
     have d3:wr.cell? ⟨gb,i*11+3,E⟩=Q (I J x.s.wa):=d 3 (by omega)
     have c4:wr.cell? ⟨R,i*11+4,E⟩=Q (I J x.se):=b 4 (by omega)
     have d4:wr.cell? ⟨gb,i*11+4,E⟩=Q (I J x.se):=d 4 (by omega)
     have c5:wr.cell? ⟨R,i*11+5,E⟩=Q (I J x.ti):=b 5 (by omega)
     have d5:wr.cell? ⟨gb,i*11+5,E⟩=Q (I J x.ti):=d 5 (by omega)
     have c6:wr.cell? ⟨R,i*11+6,E⟩=Q (I J x.rest):=b 6 (by omega)
     have d6:wr.cell? ⟨gb,i*11+6,E⟩=Q (I J x.rest):=d 6 (by omega)
     have c7:wr.cell? ⟨R,i*11+7,E⟩=Q (I J (Qr m.QL x).1.ep):=b 7 (by omega)
     have d7:wr.cell? ⟨gb,i*11+7,E⟩=Q (I J (Qr m.QL x).1.ep):=d 7 (by omega)
     have c8:wr.cell? ⟨R,i*11+8,E⟩=Q (I J (Qr m.QL x).1.num):=b 8 (by omega)
     have d8:wr.cell? ⟨gb,i*11+8,E⟩=Q (I J (Qr m.QL x).1.num):=d 8 (by omega)
     have c9:wr.cell? ⟨R,i*11+9,E⟩=Q (I J (Qr m.QL x).2.1):=b 9 (by omega)
     have d9:wr.cell? ⟨gb,i*11+9,E⟩=Q (I J (Qr m.QL x).2.1):=d 9 (by omega)
     have bM:wr.cell? ⟨R,i*11+10,E⟩=Q (I J (Qr m.QL x).2.2):=b 10 (by omega)
     have bN:wr.cell? ⟨gb,i*11+10,E⟩=Q (I J (Qr m.QL x).2.2):=d 10 (by omega)
     have ak:=zd hb
     clear hb b d bd be hx
     generalize Qr m.QL x=o at*
     go_wp2_with fail
     go_still (by kernel_rfl)
     go_wp2_with fail
     go_roundw
     case rel=>exact⟨i+1,by omega,by go_num,(ud ak).drew⟩
     case measure=>simp[intOf];omega
    ·have bn:i=v.length:=by omega
     subst bn
     have ba:decide ((v.length:Int)<v.length)=false:=by simp
     have ak:=zd hb
     clear hb
     go_wp2_with fail
     go_ret
     exact⟨rfl,(ud aZ).trans ((ud ak).mono (ud aZ).size)⟩
end Go.Proofs.YtndhpgciopcncaaGreatDoor
namespace Go.Proofs.YtndhpgciopcncaaGreatDoor
open Go.ChangeShapes Go.WideShapes Go.ChangeAt Go.RowKit
theorem Tryz.cellsToken:prog.cellsOf 49=2:=by kernel_rfl
theorem Jb{H:Type}{enc:TypeId×Value->H}{w:World}{held:Bool}{a:Nat}{cs:List Value}{x:DataW H×List MemPlace}(h:DataW.trod enc prog w 0 (fun _=>true) held a 49 cs=Q x):
  ∃e:Tok,cs=[I J e.ep,I J e.num]/\e.wf:=by
 obtain⟨xs,m,_,rfl,j,b,i⟩:=DataW.trod_struct underlying49 h
 rw[Tryz.cellsToken]at j
 match cs,j with
 |[c,d],_=>
  match xs,b with
  |[k,l],_=>
   have o:DataW.trod enc prog w 0 (fun _=>true) held m 3 [c]=Q k:=by have h:DataW.trod enc prog w 0 (fun _=>true) held m 3 (([c,d].drop 0).take (prog.cellsOf 3))=Q k:=i 0 _ rfl;rw[Tryz.cellsInt]at h;exact h
   have p:DataW.trod enc prog w 0 (fun _=>true) held m 3 [d]=Q l:=by have h:DataW.trod enc prog w 0 (fun _=>true) held m 3 (([c,d].drop 1).take (prog.cellsOf 3))=Q l:=i 1 _ rfl;rw[Tryz.cellsInt]at h;exact h
   obtain⟨a0,f,_,q⟩:=DataW.trod_int underlying3 o
   obtain⟨n,g,_,r⟩:=DataW.trod_int underlying3 p
   simp at f g
   exact⟨⟨a0,n⟩,by rw[f,g],by unfold Tok.wf xg;have s:=yi q;have t:=yi r;dsimp only;omega⟩
theorem zcS:ownKnob prog.godebug=E:=by kernel_rfl
theorem vi:laidOutB prog=true:=by kernel_rfl
theorem Ky(os:Os)(g:os.Started)(H:Type)(enc:TypeId×Value->H):
  ReturnsInHanded {} Tryz.checked os 8 .any (fun w args=>(Rows.fencedSpec.pre enc prog Tryz.f8 [] false w args/\laidMetH prog VO w)/\sizedMet enc prog Tryz.f8 (OpenSpec.ofChange Rows.fencedSpec) false w args) (Rows.fencedSpec.post enc prog Tryz.f8 false true false false):=by
 refine returnsInHanded_of_change_and (C:=Tryz.checked) (X:=fun w _=>laidMetH prog VO w) (fun _ _ _ hh h=>h.of_heap hh) zcS g (by kernel_rfl) func8
  (ChangeSpec.witness_shaped (enc:=enc) (C:=Tryz.checked) (os:=os) (X:=fun w _=>laidMetH prog VO w) false (World.laidAll prog os VO) #[.agg #[I J 0,I J 0,I J 0,I J 0,I J 0,I J 0,.slice E 0 0],.slice E 0 0,.agg #[I J 0,I J 0]] 8 (World.laidAll_os _ _ _)
   (World.shaped_of_ZipB (by kernel_rfl) (by kernel_rfl)) (by kernel_rfl) (by kernel_rfl) (by kernel_rfl) (Jc os _)) ?_
 intro W base args ds gs T d hW ab R D _
 have b:∀(j:Nat) t v,Tryz.f8.params[j]?=Q t->args[j]?=Q v->Value.okWide prog W .any base t v:=d
 have z:(DataW.weightsEach prog (Tryz.f8.params.toList++Rows.fencedSpec.plain.varTypes prog) (ds++gs)).all (· <=reachBytes)=true:=R
 have V:=hW
 obtain⟨p,q,B,hV,rfl,ai,aj⟩:=hW
 have hA:DataW.TrodAll enc prog W 0 (fun _=>true) true Tryz.f8.params.toList args.toList ds p:=B
 rw[params8]at hA b z
 obtain⟨v0,ak,d0,ad,p0,q0,Z,rfl,rfl,h0,r0⟩:=trodAll_cons hA
 obtain⟨v1,al,d1,ae,p1,q1,rfl,rfl,rfl,h1,r1⟩:=trodAll_cons r0
 obtain⟨v2,am,d2,af,p2,q2,rfl,rfl,rfl,h2,r2⟩:=trodAll_cons r1
 obtain⟨rfl,rfl,rfl⟩:=trodAll_nil r2
 obtain rfl:args=#[v0,v1,v2]:=by cases args;simp_all
 obtain⟨rfl,rfl⟩:=trodVars_none hV
 obtain⟨cs,rfl,ah⟩:=okWide_struct underlying27 (b 0 27 v0 rfl rfl)
 obtain⟨U,f,c,rfl⟩:=okWide_slice underlying28 (b 1 28 v1 rfl rfl)
 obtain⟨i,rfl,ac⟩:=okWide_struct underlying49 (b 2 49 v2 rfl rfl)
 have k0:=h0
 have k1:=h1
 have k2:=h2
 have a6:∀x∈p0,x.block<W.1.size:=by obtain⟨m,P⟩:=k0;exact DataW.trod_lt m _ _ _ P
 have a7:∀x∈p1,x.block<W.1.size:=by obtain⟨m,P⟩:=k1;exact DataW.trod_lt m _ _ _ P
 have a8:∀x∈p2,x.block<W.1.size:=by obtain⟨m,P⟩:=k2;exact DataW.trod_lt m _ _ _ P
 obtain⟨A,hf⟩:=h0
 obtain⟨o,M⟩:=h1
 obtain⟨r,N⟩:=h2
 have L:DataW.trod enc prog W 0 (fun _=>true) true A 27 cs.toList=Q (d0,p0):=by simpa[Value.cells]using hf
 have k:DataW.trod enc prog W 0 (fun _=>true) true o 28 [.slice U f c]=Q (d1,p1):=by simpa[Value.cells]using M
 obtain⟨s,le,la,wi,ke,qu,a,n,cap,Fr,Wd,K,ag,a5,⟨b1,b2,b3,b4,b5,b6⟩,⟨hF,Y,hK⟩,S⟩:=vN L
 have F:cs=#[I J s,I J le,I J la,I J wi,I J ke,I J qu,.slice a n cap]:=by cases cs;simp_all
 have hn:n<=140737488355328:=by
  have:=S (fun y hy=>by
   have:=List.all_eq_true.1 z y (DataW.weights_mem_each (j:=0) rfl rfl y hy)
   simpa using this)
  simp only[reachBytes]at this
  omega
 obtain⟨a2,n2,a9,G,hc2,a0,a3,hG⟩:=jT k (fun y hy=>by
  have:=List.all_eq_true.1 z y (DataW.weights_mem_each (j:=1) rfl rfl y hy)
  simpa using this)
 simp at hc2
 obtain⟨rfl,rfl,rfl⟩:=hc2
 have l:DataW.trod enc prog W 0 (fun _=>true) true r 49 i.toList=Q (d2,p2):=by simpa[Value.cells]using N
 obtain⟨tk,aa,a4⟩:=Jb l
 have u:i=#[I J tk.ep,I J tk.num]:=by cases i;simp_all
 clear N l
 clear B d hf L S M k
 refine(show Calls prog 8 #[.agg cs,.slice U f c,.agg i] W _ from F▸u▸zaL s le la wi ke qu a n cap Fr Wd K U f c G tk W (Z6 D) b1 b2 b3 b4 b5 b6 a5 hn hF Y hK a0 a3 hG a4).mono fun e W' ⟨he,bel⟩=>?_
 subst he
 exact⟨_,rfl,_,_,_,[],_,[],V,trodAll_mk1 (shut_bool underlying4 _),(trodAll_cons_mk (Below.trod vi (by kernel_rfl) (of_decide_eq_true (by kernel_rfl)) k0 bel a6) (trodAll_cons_mk (Below.trod vi (by kernel_rfl) (of_decide_eq_true (by kernel_rfl)) k1 bel a7) (trodAll_cons_mk (Below.trod vi (by kernel_rfl) (of_decide_eq_true (by kernel_rfl)) k2 bel a8) trodAll_mk0))),rfl,bel.frame _,fun h=>by cases h⟩
theorem Kz:Rows.FencedSaid:=
 OpenClaim.holds_of_wide 8 Tryz.f8 rfl rfl rfl rfl rfl rfl rfl ⟨rfl,rfl,rfl,rfl,rfl⟩ rfl rfl rfl rfl rfl (by kernel_rfl) func8 Kw
  (of_decide_eq_true (by kernel_rfl)) (by unfold Func.isWrapper;first|(rw[if_pos (by decide+kernel)];kernel_rfl)|(rw[if_neg (by decide+kernel)];exact⟨rfl,rfl⟩))
  (fun os a H enc _=>Ky os a H enc)
theorem fencedCard_holds:Rows.FencedCardSaid:=
 Claim7.holds_tied_plain_at .later [] [.data,.data,.data,.sentinel,.sentinel,.listed,.data] true (true, "e4703e471f700b14ef4f5b2136a5b11b72e3551741bf1531b3f191eeb70a92c1") true
  Kz (fun _ h=>by cases h) (by kernel_rfl) (fun _ h=>by cases h) fenced_row_tie rfl ⟨rfl,rfl⟩ (by kernel_rfl) rfl
  (fun f fn d b=>by
   obtain rfl:f=8:=Option.some.inj ((show prog.funcNamed "mill/millkeep.Fenced" =Q 8 by kernel_rfl).symm.trans d)|>.symm
   obtain rfl:fn=Tryz.f8:=(Option.some.inj (func8.symm.trans b)).symm
   exact⟨by kernel_rfl,fun j t c=>by
    rw[params8]at c
    have e:t∈[27,28,49]:=by simpa using Array.mem_of_getElem? c
    have a:([27,28,49].all fun u=>!prog.wantsStandIn u)=true:=by kernel_rfl
    exact(show prog.wantsStandIn t=false by simpa using List.all_eq_true.1 a t e)⟩)
  (by kernel_rfl)
#print axioms fencedCard_holds
end Go.Proofs.YtndhpgciopcncaaGreatDoor
