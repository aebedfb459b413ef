import Derived.Test.YtndhpgciopcncaaGreatDoorPOrd4
import Derived.Sort.Grow
import Derived.Sort.Statements
import Derived.Deep.Draws
import Derived.Shelf.SlSortCmp.WholeK
import Derived.Shelf.SlSortCmp.NoneTotal
import Derived.Test.YtndhpgciopcncaaGreatDoorPRefU
open Nat renaming lt_of_lt_of_le → J
open Option renaming some → E
open Nat renaming le_refl → Z
open Go renaming World → A
open Go.RowKit renaming Below → D
open Nat renaming le_trans → G
open Go.RowKit.Below renaming refl → L
open Go renaming Value → T
set_option linter.unusedVariables false
set_option maxRecDepth 20000
set_option maxHeartbeats 8000000
open Go.Proofs.Tryz
namespace Go.Proofs.YtndhpgciopcncaaGreatDoor
open Go.ChangeMaps (setBlock)
open Go.RowKit Go.Maps Go.Shelf
theorem byKey_any(x y:Tsk)(w:A):
  Calls prog 106 #[.agg (tZz x),.agg (tZz y)] w fun e w'=>e=.returned (I (qp x y))/\Below w.1.size w w':=
 (Dr.byKey_any x y w).mono fun e w' ⟨a,b⟩=>⟨a,b.bel⟩
structure Yc(c:Cf)(now:Int)(x:Tsk):Prop where
 t1: -1<=x.s.t
 t2:x.s.t<c.n
 wn:0<=x.s.wn/\x.s.wn<=100000
 se:0<=x.se/\x.se<=now
def yF(c:Cf)(now:Int)(x:Tsk):Int:=match x.rl with
 |true=>(x.s.wn+1)*c.wh x.s.t-(now-x.se)/4
 |false=>(x.s.wn+1)*c.wh x.s.t+c.keep x.s.t-(now-x.se)/4
theorem zbs{w:A}{b:Nat}{c:Cf}{a:Option Addr}{cap:Nat}{ep num:Int}{tb qb:Nat}{TL:List (Jk×Tsk)}{QL:List (Tok×Lse)}(h:zC w b c (.slice a c.n cap) ep num tb qb TL QL)(l:c.ok)(i:TS w a c.n c.F c.W c.K)(now:Int)(d:0<=now/\now<=100000)(x:Tsk)(e:Yc c now x)
  (f g:Nat) (m:f<w.1.size) (o:g<w.1.size) (j:w.cell? (U f 0)=E (O b)) (k:w.cell? (U g 0)=E (I now)):
  Calls prog 160 #[.agg (tZz x),(O f),(O g)] w fun e w'=>e=.returned (I (yF c now x))/\Below w.1.size w w':=by
 obtain⟨p,s,se,ti,rest⟩:=x
 cases p with
 |true=>exact zfI h l i s se ti rest now e.t1 e.t2 e.wn d e.se f g m o j k
 |false=>exact JG h l i s se ti rest now e.t1 e.t2 e.wn d e.se f g m o j k
def zok(a:Bool)(x y:Tsk):Int:=match a with
 |true=>vE y.kd x.kd
 |false=>0
def KK(c:Cf)(now:Int)(a:Bool)(x y:Tsk):Int:=orL [zok a x y,vE (yF c now x) (yF c now y),qp x y]
theorem zii(s:Sg)(w:A):Calls prog 334 #[.agg #[I s.t,I s.sr,I s.wn]] w fun e w'=>e=.returned (I 1)/\Below w.1.size w w':=by
 go_enter func334,ntmps334
 go_wp2_with fail
 go_ret
 first|exact⟨rfl,(L _ _).alloc (Z _) _⟩|exact⟨rfl,L _ _⟩
theorem zih(s:Sg)(w:A):Calls prog 337 #[.agg #[I s.t,I s.sr,I s.wn]] w fun e w'=>e=.returned (I 2)/\Below w.1.size w w':=by
 go_enter func337,ntmps337
 go_wp2_with fail
 go_ret
 first|exact⟨rfl,(L _ _).alloc (Z _) _⟩|exact⟨rfl,L _ _⟩
theorem zaS(x:Tsk):∃f:Nat,(∀w,(method 518 x.jt (.agg #[I x.s.t,I x.s.sr,I x.s.wn]) "Kind").run prog w=.ok (f,.agg #[I x.s.t,I x.s.sr,I x.s.wn]) w)/\(∀w,Calls prog f #[.agg #[I x.s.t,I x.s.sr,I x.s.wn]] w fun e w'=>e=.returned (I x.kd)/\Below w.1.size w w')/\(∀args w,(callFunc f args).run prog w=.ok (.enter f args) w):=by
 obtain⟨a,s,se,ti,rest⟩:=x
 cases a with
 |true=>exact⟨334,vR s,zii s,enters_of func334 (by kernel_rfl) rfl⟩
 |false=>exact⟨337,kf s,zih s,enters_of func337 (by kernel_rfl) rfl⟩
theorem zfA{w:A}{b:Nat}{c:Cf}{a:Option Addr}{cap:Nat}{ep num:Int}{tb qb:Nat}{TL:List (Jk×Tsk)}{QL:List (Tok×Lse)}(h:zC w b c (.slice a c.n cap) ep num tb qb TL QL)(hc:c.ok)(aU:TS w a c.n c.F c.W c.K)(now:Int)(aq:0<=now/\now<=100000)(S:Bool)(q:Nat)(hO:zgF w b now S q)(x y:Tsk)(hx:Yc c now x)(hy:Yc c now y):
  Calls prog 161 #[.agg (tZz x),.agg (tZz y),(O (q+2)),(O (q+3))] w fun e w'=>e=.returned (I (KK c now S x y))/\Below w.1.size w w':=by
 obtain⟨t0,-⟩:=zc hO.b2
 have b7:=zd hO.b2
 obtain⟨b1,b2,ad,bz⟩:=box2 w (.cells (tZz x) 177) (.cells (tZz y) 177)
 have b3:=(ad.block _ (zd hO.b3)).trans hO.b3
 obtain⟨x0,x1,x2,x3,-⟩:=zc b1
 obtain⟨x4,x5,x6,x7,-⟩:=zc b2
 obtain⟨x8,-⟩:=zc b3
 have bg:=hO.later ad
 have be:=zd hO.b0
 have bf:=zd hO.b1
 have bd:=zd hO.b3
 have ai:Hid (∀V:A,D ((w.alloc (.cells (tZz x) 177)).alloc (.cells (tZz y) 177)).1.size ((w.alloc (.cells (tZz x) 177)).alloc (.cells (tZz y) 177)) V->w.1.size<=w.1.size->Hid (Calls prog 160 #[.agg (tZz x),(O q),(O (q+1))] V fun e w'=>e=.returned (I (yF c now x))/\Below V.1.size V w')):=fun V hV _=>by
  have hw:=ad.trans (hV.mono ad.size)
  have ac:=hO.later hw
  exact zbs (h.later hw) hc (aU.below hw) now aq x hx q (q+1) (zd ac.b0) (zd ac.b1) (by rw[xH ac.b0];rfl) (by rw[xH ac.b1];rfl)
 have aj:Hid (∀V:A,D ((w.alloc (.cells (tZz x) 177)).alloc (.cells (tZz y) 177)).1.size ((w.alloc (.cells (tZz x) 177)).alloc (.cells (tZz y) 177)) V->w.1.size<=w.1.size->Hid (Calls prog 160 #[.agg (tZz y),(O q),(O (q+1))] V fun e w'=>e=.returned (I (yF c now y))/\Below V.1.size V w')):=fun V hV _=>by
  have hw:=ad.trans (hV.mono ad.size)
  have ac:=hO.later hw
  exact zbs (h.later hw) hc (aU.below hw) now aq y hy q (q+1) (zd ac.b0) (zd ac.b1) (by rw[xH ac.b0];rfl) (by rw[xH ac.b1];rfl)
 obtain⟨R,hR⟩:∃R,zok S x y=R:=⟨_,rfl⟩
 obtain⟨PX,aQ⟩:∃PX,yF c now x=PX:=⟨_,rfl⟩
 obtain⟨PY,aR⟩:∃PY,yF c now y=PY:=⟨_,rfl⟩
 obtain⟨CP,aP⟩:∃CP,vE PX PY=CP:=⟨_,rfl⟩
 obtain⟨BK,aO⟩:∃BK,qp x y=BK:=⟨_,rfl⟩
 have aM:Hid (KK c now S x y=orL [R,CP,BK]):=by show _=_;unfold KK;rw[hR,aQ,aR,aP,aO]
 rw[aQ]at ai
 rw[aR]at aj
 have ax:=fun W=>ze (byKey_any x y W)
 simp only[aO]at ax
 have ay:=fun W=>ze (kH PX PY W)
 simp only[aP]at ay
 have ab:∀(Y W:A),W.1[Y.1.size]?=E (.cells #[I R,I CP,I BK] 3)->Hid (Calls prog 163 #[.slice (E (U Y.1.size 0)) 3 3] W fun e w'=>e=.returned (I (orL [R,CP,BK]))/\w'=W):=fun Y W hW=>
  ziE [R,CP,BK] (by simp) W Y.1.size (fun k v hk=>by
   rw[xH hW]
   match k,hk with
   |0,hk=>simp at hk;subst hk;rfl
   |1,hk=>simp at hk;subst hk;rfl
   |2,hk=>simp at hk;subst hk;rfl)
 have ak:=ze ad
 have HR:=ze hR
 have tX:=(ad.cell (p:=(U (q+2) 0)) b7).trans t0
 clear h hc aU aq hO hx hy aQ aR aO hR bg b1 b2 b3 ad aP t0
 cases S with
 |false=>
  go_enter func161,ntmps161
  have az:(0:Int)=R:=ud HR
  go_wp2_with fail
  generalize hX:((w.alloc (.cells (tZz x) 177)).alloc (.cells (tZz y) 177))=X at*
  have B:w.1.size<X.1.size:=by omega
  have C:w.1.size+1<X.1.size:=by omega
  have aw:q+3<X.1.size:=by omega
  have aY:q<X.1.size:=by omega
  have b6:q+1<X.1.size:=by omega
  have z:Hid (w.1.size<=X.1.size):=by show _<=_;omega
  clear hX bz bd be bf b7 tX
  generalize w.1.size+1=n1 at*
  generalize aT:w.1.size=d at*
  rw[az]
  have bc:D X.1.size X X:=L _ _
  obtain⟨V,aS⟩:∃V,X=V:=⟨_,rfl⟩
  have j:Hid (D X.1.size X V):=by rw[<-aS];exact bc
  rw[aS]
  have v0:Cz V d 0 (jZz x):=((ud j).cell (p:=(U d 0)) B).trans x0
  have v1:Cz V d 1 (I x.se):=((ud j).cell (p:=(U d 1)) B).trans x1
  have v2:Cz V d 2 (I x.ti):=((ud j).cell (p:=(U d 2)) B).trans x2
  have v3:Cz V d 3 (I x.rest):=((ud j).cell (p:=(U d 3)) B).trans x3
  have v4:Cz V n1 0 (jZz y):=((ud j).cell (p:=(U n1 0)) C).trans x4
  have v5:Cz V n1 1 (I y.se):=((ud j).cell (p:=(U n1 1)) C).trans x5
  have v6:Cz V n1 2 (I y.ti):=((ud j).cell (p:=(U n1 2)) C).trans x6
  have v7:Cz V n1 3 (I y.rest):=((ud j).cell (p:=(U n1 3)) C).trans x7
  have v8:Cz V (q+3) 0 (.func (.func 160) #[] #[(O q),(O (q+1))]):=((ud j).cell (p:=(U (q+3) 0)) aw).trans x8
  have P:=J B (ud j).size
  have Q:=J C (ud j).size
  have av:=J aw (ud j).size
  have aX:=J aY (ud j).size
  have b5:=J b6 (ud j).size
  clear aS bc x0 x1 x2 x3 x4 x5 x6 x7 x8
  have ae:=ud ai V (ud j) (Z _)
  have af:=ud ai V.drew (ud j).drew (Z _)
  go_region_held3 (fun w'=>w'.cell? (U d 0)=E (jZz x)/\w'.cell? (U d 1)=E (I x.se)/\w'.cell? (U d 2)=E (I x.ti)/\w'.cell? (U d 3)=E (I x.rest)/\w'.cell? (U n1 0)=E (jZz y)/\w'.cell? (U n1 1)=E (I y.se)/\w'.cell? (U n1 2)=E (I y.ti)/\w'.cell? (U n1 3)=E (I y.rest)/\w'.cell? (U (q+3) 0)=E (.func (.func 160) #[] #[(O q),(O (q+1))])) (go_keep) (first
   |(go_at_call 160;(first|(with_reducible refine(ud ae).mono ?_)|(with_reducible refine(ud af).mono ?_));rintro e s ⟨rfl,l⟩;have f:D V.1.size V s:=⟨l.os,l.tape,l.output,l.size,l.block⟩;clear l;have a0:Cz s d 0 (jZz x):=(f.cell (p:=(U d 0)) P).trans v0;have a1:Cz s d 1 (I x.se):=(f.cell (p:=(U d 1)) P).trans v1;have a2:Cz s d 2 (I x.ti):=(f.cell (p:=(U d 2)) P).trans v2;have a3:Cz s d 3 (I x.rest):=(f.cell (p:=(U d 3)) P).trans v3;have a4:Cz s n1 0 (jZz y):=(f.cell (p:=(U n1 0)) Q).trans v4;have a5:Cz s n1 1 (I y.se):=(f.cell (p:=(U n1 1)) Q).trans v5;have a6:Cz s n1 2 (I y.ti):=(f.cell (p:=(U n1 2)) Q).trans v6;have a7:Cz s n1 3 (I y.rest):=(f.cell (p:=(U n1 3)) Q).trans v7;have a8:Cz s (q+3) 0 (.func (.func 160) #[] #[(O q),(O (q+1))]):=(f.cell (p:=(U (q+3) 0)) av).trans v8;have t:=J P f.size;have u:=J Q f.size;have ar:=J av f.size;have aV:=J aX f.size;have aZ:=J b5 f.size;have ag:=ud aj s ((ud j).trans (f.mono (ud j).size)) (Z _);have ah:=ud aj s.drew ((ud j).trans (f.mono (ud j).size)).drew (Z _);have an:=ze ((ud j).trans (f.mono (ud j).size));clear f ae af)
   |(go_at_call 160;(first|(with_reducible refine(ud ag).mono ?_)|(with_reducible refine(ud ah).mono ?_));rintro e H ⟨rfl,m⟩;have g:D s.1.size s H:=⟨m.os,m.tape,m.output,m.size,m.block⟩;clear m;have c0:Cz H d 0 (jZz x):=(g.cell (p:=(U d 0)) t).trans a0;have c1:Cz H d 1 (I x.se):=(g.cell (p:=(U d 1)) t).trans a1;have c2:Cz H d 2 (I x.ti):=(g.cell (p:=(U d 2)) t).trans a2;have c3:Cz H d 3 (I x.rest):=(g.cell (p:=(U d 3)) t).trans a3;have c4:Cz H n1 0 (jZz y):=(g.cell (p:=(U n1 0)) u).trans a4;have c5:Cz H n1 1 (I y.se):=(g.cell (p:=(U n1 1)) u).trans a5;have c6:Cz H n1 2 (I y.ti):=(g.cell (p:=(U n1 2)) u).trans a6;have c7:Cz H n1 3 (I y.rest):=(g.cell (p:=(U n1 3)) u).trans a7;have c8:Cz H (q+3) 0 (.func (.func 160) #[] #[(O q),(O (q+1))]):=(g.cell (p:=(U (q+3) 0)) ar).trans a8;have M:=J t g.size;have N:=J u g.size;have au:=J ar g.size;have aW:=J aV g.size;have b4:=J aZ g.size;have ao:=ze ((ud an).trans (g.mono (ud an).size));clear g ag ah)
   |(go_at_call 162;(with_reducible refine(ud (ay _)).mono ?_);rintro e V9 ⟨rfl,h9⟩;have ap:=h9.symm;subst ap)
   |(go_at_call 106;(with_reducible refine(ud (ax _)).mono ?_);rintro e r ⟨rfl,o⟩;have i:D H.1.size H r:=⟨o.os,o.tape,o.output,o.size,o.block⟩;clear o;have d0:Cz r d 0 (jZz x):=(i.cell (p:=(U d 0)) M).trans c0;have d1:Cz r d 1 (I x.se):=(i.cell (p:=(U d 1)) M).trans c1;have d2:Cz r d 2 (I x.ti):=(i.cell (p:=(U d 2)) M).trans c2;have d3:Cz r d 3 (I x.rest):=(i.cell (p:=(U d 3)) M).trans c3;have d4:Cz r n1 0 (jZz y):=(i.cell (p:=(U n1 0)) N).trans c4;have d5:Cz r n1 1 (I y.se):=(i.cell (p:=(U n1 1)) N).trans c5;have d6:Cz r n1 2 (I y.ti):=(i.cell (p:=(U n1 2)) N).trans c6;have d7:Cz r n1 3 (I y.rest):=(i.cell (p:=(U n1 3)) N).trans c7;have d8:Cz r (q+3) 0 (.func (.func 160) #[] #[(O q),(O (q+1))]):=(i.cell (p:=(U (q+3) 0)) au).trans c8;have bh:=J M i.size;have bi:=J N i.size;have bj:=J au i.size;have bk:=J aW i.size;have bl:=J b4 i.size;have aJ:=ab r (r.alloc (.cells #[I R,I CP,I BK] 3)) (zp _ _);have aK:=ab r (r.alloc (.cells #[I R,I CP,I BK] 3)).drew (zp _ _);have aL:=ab r (r.drew.alloc (.cells #[I R,I CP,I BK] 3)) (zp r.drew _);have aN:=ze ((ud ao).trans (i.mono (ud ao).size));clear i ab)
   |(go_at_call 163;(first|(with_reducible refine(ud aJ).mono ?_)|(with_reducible refine(ud aK).mono ?_)|(with_reducible refine(ud aL).mono ?_));rintro e V8 ⟨rfl,rfl⟩))
  go_wp2_with fail
  go_ret
  have h3:=ud aN
  exact⟨by rw[ud aM];rfl,by rw[aT];first|exact((ud ak).trans ((h3.mono (ud z)).alloc (G (ud z) h3.size) _)).drew|exact(ud ak).trans ((h3.mono (ud z)).alloc (G (ud z) h3.size) _)|exact(ud ak).trans ((h3.mono (ud z)).drew.alloc (G (ud z) h3.size) _)⟩
 |true=>
  obtain⟨fx,mx,kx,ex⟩:=zaS x
  obtain⟨fy,my,ky,ey⟩:=zaS y
  have aH:=fun W=>ze (kx W)
  have aI:=fun W=>ze (ky W)
  have az:vE y.kd x.kd=R:=ud HR
  have aG:=fun W=>ze (kH y.kd x.kd W)
  simp only[az]at aG
  clear kx ky az
  go_enter func161,ntmps161
  go_wp2_with fail
  generalize hX:((w.alloc (.cells (tZz x) 177)).alloc (.cells (tZz y) 177))=X at*
  have B:w.1.size<X.1.size:=by omega
  have C:w.1.size+1<X.1.size:=by omega
  have aw:q+3<X.1.size:=by omega
  have aY:q<X.1.size:=by omega
  have b6:q+1<X.1.size:=by omega
  have z:Hid (w.1.size<=X.1.size):=by show _<=_;omega
  clear hX bz bd be bf b7 tX
  generalize w.1.size+1=n1 at*
  generalize aT:w.1.size=d at*
  rename_i Q1 K1 hK1
  have b8:Hid (∀(u9 aA aB aC aD aE aF:T) (V:A),D X.1.size X V->K1 {tmps:=#[.agg (tZz x),.agg (tZz y),(O (q+2)),(O (q+3)),(O d),(O n1),I 0,I R,.bool true,u9,aA,aB,aC,aD,aE,aF,undef,undef,undef,undef,undef,undef,undef,undef,undef,undef,undef,undef,undef],defers:=[]} V):=by
   show∀(u9 aA aB aC aD aE aF:T) (V:A),D X.1.size X V->K1 {tmps:=#[.agg (tZz x),.agg (tZz y),(O (q+2)),(O (q+3)),(O d),(O n1),I 0,I R,.bool true,u9,aA,aB,aC,aD,aE,aF,undef,undef,undef,undef,undef,undef,undef,undef,undef,undef,undef,undef,undef],defers:=[]} V
   intro u9 aA aB aC aD aE aF V bb
   apply hK1
   have j:=ze bb
   have v0:Cz V d 0 (jZz x):=((ud j).cell (p:=(U d 0)) B).trans x0
   have v1:Cz V d 1 (I x.se):=((ud j).cell (p:=(U d 1)) B).trans x1
   have v2:Cz V d 2 (I x.ti):=((ud j).cell (p:=(U d 2)) B).trans x2
   have v3:Cz V d 3 (I x.rest):=((ud j).cell (p:=(U d 3)) B).trans x3
   have v4:Cz V n1 0 (jZz y):=((ud j).cell (p:=(U n1 0)) C).trans x4
   have v5:Cz V n1 1 (I y.se):=((ud j).cell (p:=(U n1 1)) C).trans x5
   have v6:Cz V n1 2 (I y.ti):=((ud j).cell (p:=(U n1 2)) C).trans x6
   have v7:Cz V n1 3 (I y.rest):=((ud j).cell (p:=(U n1 3)) C).trans x7
   have v8:Cz V (q+3) 0 (.func (.func 160) #[] #[(O q),(O (q+1))]):=((ud j).cell (p:=(U (q+3) 0)) aw).trans x8
   have P:=J B (ud j).size
   have Q:=J C (ud j).size
   have av:=J aw (ud j).size
   have aX:=J aY (ud j).size
   have b5:=J b6 (ud j).size
   clear bb hK1 aH aI aG mx my ex ey x0 x1 x2 x3 x4 x5 x6 x7 x8
   go_wp2_with fail
   have ae:=ud ai V (ud j) (Z _)
   have af:=ud ai V.drew (ud j).drew (Z _)
   go_region_held3 (fun w'=>w'.cell? (U d 0)=E (jZz x)/\w'.cell? (U d 1)=E (I x.se)/\w'.cell? (U d 2)=E (I x.ti)/\w'.cell? (U d 3)=E (I x.rest)/\w'.cell? (U n1 0)=E (jZz y)/\w'.cell? (U n1 1)=E (I y.se)/\w'.cell? (U n1 2)=E (I y.ti)/\w'.cell? (U n1 3)=E (I y.rest)/\w'.cell? (U (q+3) 0)=E (.func (.func 160) #[] #[(O q),(O (q+1))])) (go_keep) (first
    |(go_at_call 160;(first|(with_reducible refine(ud ae).mono ?_)|(with_reducible refine(ud af).mono ?_));rintro e s ⟨rfl,l⟩;have f:D V.1.size V s:=⟨l.os,l.tape,l.output,l.size,l.block⟩;clear l;have a0:Cz s d 0 (jZz x):=(f.cell (p:=(U d 0)) P).trans v0;have a1:Cz s d 1 (I x.se):=(f.cell (p:=(U d 1)) P).trans v1;have a2:Cz s d 2 (I x.ti):=(f.cell (p:=(U d 2)) P).trans v2;have a3:Cz s d 3 (I x.rest):=(f.cell (p:=(U d 3)) P).trans v3;have a4:Cz s n1 0 (jZz y):=(f.cell (p:=(U n1 0)) Q).trans v4;have a5:Cz s n1 1 (I y.se):=(f.cell (p:=(U n1 1)) Q).trans v5;have a6:Cz s n1 2 (I y.ti):=(f.cell (p:=(U n1 2)) Q).trans v6;have a7:Cz s n1 3 (I y.rest):=(f.cell (p:=(U n1 3)) Q).trans v7;have a8:Cz s (q+3) 0 (.func (.func 160) #[] #[(O q),(O (q+1))]):=(f.cell (p:=(U (q+3) 0)) av).trans v8;have t:=J P f.size;have u:=J Q f.size;have ar:=J av f.size;have aV:=J aX f.size;have aZ:=J b5 f.size;have ag:=ud aj s ((ud j).trans (f.mono (ud j).size)) (Z _);have ah:=ud aj s.drew ((ud j).trans (f.mono (ud j).size)).drew (Z _);have an:=ze ((ud j).trans (f.mono (ud j).size));clear f ae af)
    |(go_at_call 160;(first|(with_reducible refine(ud ag).mono ?_)|(with_reducible refine(ud ah).mono ?_));rintro e H ⟨rfl,m⟩;have g:D s.1.size s H:=⟨m.os,m.tape,m.output,m.size,m.block⟩;clear m;have c0:Cz H d 0 (jZz x):=(g.cell (p:=(U d 0)) t).trans a0;have c1:Cz H d 1 (I x.se):=(g.cell (p:=(U d 1)) t).trans a1;have c2:Cz H d 2 (I x.ti):=(g.cell (p:=(U d 2)) t).trans a2;have c3:Cz H d 3 (I x.rest):=(g.cell (p:=(U d 3)) t).trans a3;have c4:Cz H n1 0 (jZz y):=(g.cell (p:=(U n1 0)) u).trans a4;have c5:Cz H n1 1 (I y.se):=(g.cell (p:=(U n1 1)) u).trans a5;have c6:Cz H n1 2 (I y.ti):=(g.cell (p:=(U n1 2)) u).trans a6;have c7:Cz H n1 3 (I y.rest):=(g.cell (p:=(U n1 3)) u).trans a7;have c8:Cz H (q+3) 0 (.func (.func 160) #[] #[(O q),(O (q+1))]):=(g.cell (p:=(U (q+3) 0)) ar).trans a8;have M:=J t g.size;have N:=J u g.size;have au:=J ar g.size;have aW:=J aV g.size;have b4:=J aZ g.size;have ao:=ze ((ud an).trans (g.mono (ud an).size));clear g ag ah)
    |(go_at_call 162;(with_reducible refine(ud (ay _)).mono ?_);rintro e V9 ⟨rfl,h9⟩;have ap:=h9.symm;subst ap)
    |(go_at_call 106;(with_reducible refine(ud (ax _)).mono ?_);rintro e r ⟨rfl,o⟩;have i:D H.1.size H r:=⟨o.os,o.tape,o.output,o.size,o.block⟩;clear o;have d0:Cz r d 0 (jZz x):=(i.cell (p:=(U d 0)) M).trans c0;have d1:Cz r d 1 (I x.se):=(i.cell (p:=(U d 1)) M).trans c1;have d2:Cz r d 2 (I x.ti):=(i.cell (p:=(U d 2)) M).trans c2;have d3:Cz r d 3 (I x.rest):=(i.cell (p:=(U d 3)) M).trans c3;have d4:Cz r n1 0 (jZz y):=(i.cell (p:=(U n1 0)) N).trans c4;have d5:Cz r n1 1 (I y.se):=(i.cell (p:=(U n1 1)) N).trans c5;have d6:Cz r n1 2 (I y.ti):=(i.cell (p:=(U n1 2)) N).trans c6;have d7:Cz r n1 3 (I y.rest):=(i.cell (p:=(U n1 3)) N).trans c7;have d8:Cz r (q+3) 0 (.func (.func 160) #[] #[(O q),(O (q+1))]):=(i.cell (p:=(U (q+3) 0)) au).trans c8;have bh:=J M i.size;have bi:=J N i.size;have bj:=J au i.size;have bk:=J aW i.size;have bl:=J b4 i.size;have aJ:=ab r (r.alloc (.cells #[I R,I CP,I BK] 3)) (zp _ _);have aK:=ab r (r.alloc (.cells #[I R,I CP,I BK] 3)).drew (zp _ _);have aL:=ab r (r.drew.alloc (.cells #[I R,I CP,I BK] 3)) (zp r.drew _);have aN:=ze ((ud ao).trans (i.mono (ud ao).size));clear i ab)
    |(go_at_call 163;(first|(with_reducible refine(ud aJ).mono ?_)|(with_reducible refine(ud aK).mono ?_)|(with_reducible refine(ud aL).mono ?_));rintro e V8 ⟨rfl,rfl⟩))
   go_wp2_with fail
   go_ret
   have h3:=ud aN
   exact⟨by rw[ud aM];rfl,by rw[aT];first|exact((ud ak).trans ((h3.mono (ud z)).alloc (G (ud z) h3.size) _)).drew|exact(ud ak).trans ((h3.mono (ud z)).alloc (G (ud z) h3.size) _)|exact(ud ak).trans ((h3.mono (ud z)).drew.alloc (G (ud z) h3.size) _)⟩
  clear hK1 ab ax ay ai aj aM
  go_region_held3 (fun w'=>w'.cell? (U d 0)=E (jZz x)/\w'.cell? (U n1 0)=E (jZz y)) (go_keep) (first
   |((with_reducible refine(ud (aI _)).mono ?_);rintro e Y1 ⟨rfl,a9⟩;have al:D X.1.size X Y1:=⟨a9.os,a9.tape,a9.output,a9.size,a9.block⟩;clear a9;have a0:=(al.cell (p:=(U d 0)) B).trans x0;have a4:=(al.cell (p:=(U n1 0)) C).trans x4;have t:=J B al.size;have u:=J C al.size;have b9:=ze al;clear al aI)
   |((with_reducible refine(ud (aH _)).mono ?_);rintro e Y2 ⟨rfl,aa⟩;have am:D Y1.1.size Y1 Y2:=⟨aa.os,aa.tape,aa.output,aa.size,aa.block⟩;clear aa;have c0:=(am.cell (p:=(U d 0)) t).trans a0;have c4:=(am.cell (p:=(U n1 0)) u).trans a4;have M:=J t am.size;have N:=J u am.size;have ba:=ze ((ud b9).trans (am.mono (ud b9).size));clear am aH)
   |(go_at_call 162;(with_reducible refine(ud (aG _)).mono ?_);rintro e V9 ⟨rfl,h9⟩;have ap:=h9.symm;subst ap))
  all_goals show K1 _ _
  all_goals first|exact ud b8 _ _ _ _ _ _ _ _ (ud ba)|exact ud b8 _ _ _ _ _ _ _ _ (ud ba).drew
theorem qH(x y:Tsk):qp x y<0↔(x.kd<y.kd\/x.kd=y.kd/\(x.s.t<y.s.t\/x.s.t=y.s.t/\(x.s.sr<y.s.sr\/x.s.sr=y.s.sr/\x.s.wn<y.s.wn))):=by
 unfold qp
 simp only[orL,vE]
 repeat' split
 all_goals omega
theorem zho{x y:Tsk}(a:¬qp x y<0)(b:¬qp y x<0):x.kd=y.kd/\x.s.t=y.s.t/\x.s.sr=y.s.sr/\x.s.wn=y.s.wn:=by
 rw[qH]at a b
 omega
theorem zhp:Go.Sort.SWO (fun x y:Tsk=>decide (qp x y<0)) where
 irrefl x:=by simp only[decide_eq_false_iff_not,qH];omega
 trans x y z h1 h2:=by simp only[decide_eq_true_eq,qH]at*;omega
 ntrans x y z h1 h2:=by simp only[decide_eq_false_iff_not,qH]at*;omega
theorem VV{l e:List Tsk}(i:l.Perm e)(k:l.Pairwise (fun a b=>¬qp b a<0))(m:e.Pairwise (fun a b=>¬qp b a<0))(p:∀a∈l,∀b∈l,a.key=b.key->a=b):l=e:=
 i.eq_of_pairwise (fun a b n o c d=>p a n b (i.mem_iff.2 o) (by
  obtain⟨j,f,g,h⟩:=zho d c
  unfold Tsk.key
  rw[j,show a.s=b.s from by
   obtain⟨_,⟨_,_,_⟩,_,_,_⟩:=a
   obtain⟨_,⟨_,_,_⟩,_,_,_⟩:=b
   simp only at f g h ⊢
   rw[f,g,h]])) k m
end Go.Proofs.YtndhpgciopcncaaGreatDoor
namespace Go.Proofs.YtndhpgciopcncaaGreatDoor
open Go.RowKit Go.Maps Go.Shelf Go.Sort
theorem zoy{α:Type}[Inhabited α](enc:α->List T)(k:Nat)(w:A)(a b n:Nat)(d:Array α)(os:Array Obj):zh (fun j=>j=a) w (sortWorldK enc k w a b n d os) where
 os:=rfl
 tape:=rfl
 output:=rfl
 size:=size_sortWorldK_c enc k w a b n d os
 block j hj hn:=by
  unfold sortWorldK putRowK
  rw[heap_grow_old _ _ (by rw[size_putRow];exact hj)]
  unfold putRow mapBlock
  show((Sort.ahead w n).heap.modify a _)[j]?=_
  rw[Array.getElem?_modify,if_neg (fun e=>hn e.symm)]
  rfl
theorem zkJ:∀args w,(callFunc 106 args).run prog w=.ok (.enter 106 args) w:=enters_of func106 (by kernel_rfl) rfl
theorem zjO(a b size:Nat)(w:A):CmpLays prog 106 #[] Vf 4 qp a b size w:=
 fun m os f g x y=>(Dr.byKey_any x y _).mono fun e w' ⟨d,c⟩=>⟨d,c.lays⟩
theorem zlS(c cap:Nat)(xs:List Tsk)(w:A)(r:HoldsK Vf 4 w c 0 xs.toArray)(g:c<w.1.size)(p:xs.length<4611686018427387904):
  Calls prog 165 #[.slice (E (U c 0)) xs.length cap,.func (.func 106) #[] #[]] w fun e w'=>e=.returned (.tuple #[])/\∃q:List Tsk,q.Perm xs/\q.Pairwise (fun a b=>¬qp b a<0)/\HoldsK Vf 4 w' c 0 q.toArray/\zh (fun j=>j=c) w w':=by
 have k:=AnyQ.slices_SortFunc Tryz.sortTsk 4 Tryz.isAgg177 Tryz.sizeOf177 Vf zaa zeB qp zhp 106 #[] c 0 cap xs.toArray w zkJ (zjO c 0 _ w) r g (by simpa using p)
 have d:Calls prog 165 #[.slice (E (U c 0)) xs.toArray.size cap,.func (.func 106) #[] #[]] w _:=k
 rw[List.size_toArray]at d
 refine d.mono ?_
 rintro e w' ⟨rfl,f,n,os,⟨u,_,t⟩,z,rfl⟩
 have l:f.size=xs.length:=by rw[u,List.size_toArray]
 refine⟨rfl,f.toList,?_,?_,?_,zoy _ _ _ _ _ _ _ _⟩
 ·have v:f.extract 0 xs.length=f:=by rw[<-l];exact Array.extract_size
  have x:xs.toArray.extract 0 xs.length=xs.toArray:=by simp
  rw[v,x]at t
  exact t
 ·rw[List.pairwise_iff_getElem]
  intro i j y s o
  have h:=z i j (Nat.zero_le _) o (by rw[<-l];simpa using s)
  have m:i<f.size:=by simpa using y
  have hj':j<f.size:=by simpa using s
  rw[getElem!_pos f i m,getElem!_pos f j hj']at h
  unfold ltOf at h
  simpa using h
 ·have:=holdsK_sortWorldK_c Vf 4 w c 0 xs.toArray f n os r g u
  simpa using this
theorem zjo(a:Option Addr)(cap:Nat)(w:A):
  Calls prog 165 #[.slice a 0 cap,.func (.func 106) #[] #[]] w fun e w'=>e=.returned (.tuple #[])/\w'=w:=
 AnyF.slices_SortFunc_none (P:=prog) Tryz.sortTsk a cap (.func (.func 106) #[] #[]) w
end Go.Proofs.YtndhpgciopcncaaGreatDoor
namespace Go.Proofs.YtndhpgciopcncaaGreatDoor
open Go.ChangeMaps (setBlock)
open Go.RowKit Go.Maps Go.Shelf
theorem zjJ{w:A}{b:Nat}{c:Cf}{tv:T}{ep num:Int}{tb qb:Nat}{TL:List (Jk×Tsk)}{QL:List (Tok×Lse)}(h:zC w b c tv ep num tb qb TL QL)(x:Tsk)(hu:∀p∈QL,p.2.job≠x.key):
  Calls prog 104 #[(O b),.agg (tZz x)] w fun e w'=>e=.returned (.agg #[I x.kd,I x.s.t,I x.s.sr,I x.s.wn,I x.se,I x.ti,I x.rest,I 0,I 0,I (-1),I 0])/\Below w.1.size w w':=by
 have aL:=h.lt
 have ax:=h.cell10
 obtain⟨y0,y1,ad,yz⟩:=box2 w (.cells (tZz x) 177) zjY
 have ac:=ze (keyOf_any x ((w.alloc (.cells (tZz x) 177)).alloc zjY))
 have H:=ze h
 have Y0:=ze y0
 have Y1:=ze y1
 have a4:=ze ad
 have YZ:=ze yz
 clear h y0 y1 ad yz
 go_enter func104,ntmps104
 go_wp2_with fail
 refine(ud ac).mono ?_
 rintro e d ⟨rfl,B⟩
 have aS:=B.size
 have yz:=ud YZ
 have t0:=(B.block _ (by omega)).trans (ud Y0)
 have r0:=(B.block _ (by omega)).trans (ud Y1)
 have a7:=(ud a4).trans (B.mono (ud a4).size)
 have U:=(ud H).later a7
 have ay:=U.cell10
 have aK:=U.lt
 have aR:=zd t0
 have aE:=zd r0
 obtain⟨-,s1,s2,s3,-⟩:=zc t0
 have R0:=ze r0
 have an:=ze a7
 have ap:=ze U
 clear B yz t0 r0 a7 U ax Y0 Y1 a4 YZ ac
 --LOOP
 obtain⟨es,a,a0,a1⟩:=(ud ap).leases
 obtain⟨v0,v1,g,vz⟩:=box2 d (.cells #[I x.kd,I x.s.t,I x.s.sr,I x.s.wn] 162) (.cells #[I x.kd,I x.s.t,I x.s.sr,I x.s.wn,I x.se,I x.ti,I x.rest,I 0,I 0,I (-1),I 0] 51)
 have m:=(g.block _ (zd a0)).trans a0
 have a3:=run_range_map (P:=prog) ((d.alloc (.cells #[I x.kd,I x.s.t,I x.s.sr,I x.s.wn] 162)).alloc (.cells #[I x.kd,I x.s.t,I x.s.sr,I x.s.wn,I x.se,I x.ti,I x.rest,I 0,I 0,I (-1),I 0] 51)) 168 _ _ qb es a underlying168 m
 have ab:=ze (And.intro v0 (And.intro v1 (And.intro g (And.intro vz (And.intro m a1)))))
 have aP:=zd a0
 clear a0 a1 v0 v1 g vz m
 go_wp2_with fail
 obtain⟨v0,v1,g,vz,m,a1⟩:=ud ab
 generalize((d.alloc (.cells #[I x.kd,I x.s.t,I x.s.sr,I x.s.wn] 162)).alloc (.cells #[I x.kd,I x.s.t,I x.s.sr,I x.s.wn,I x.se,I x.ti,I x.rest,I 0,I 0,I (-1),I 0] 51))=S at*
 have aF:=(g.block _ aE).trans (ud R0)
 have aH:=g.size
 clear a3 ay s1 s2 s3 ab
 have HM:=ze a1
 have aJ:=ze m
 have aw:=ze v0
 have ao:=ze g
 have a5:=ze vz
 have au:=ze aF
 go_loopw [7,8] (fun _ _ wr=>∃(f:Array Nat) (c0:Nat),wr.1[(d.1.size+1+1)]?=E (.mapIter (E qb) a f c0)/\a<=c0/\wr.1[qb]?=E (.map es a)/\wr.1[d.1.size+1]?=E (QP x (⟨0,0⟩,-1,0))/\zh (fun k=>k=d.1.size+1) S wr)
  (fun _ _ wr=>jR es (d.1.size+1+1) wr)
 case atStart=>
  have a6:D S.1.size S (S.alloc (.mapIter (E qb) a #[] a)):=(L _ _).alloc (Z _) _
  refine⟨#[],a,by have:=zp S (.mapIter (E qb) a #[] a);rw[show S.1.size=(d.1.size+1+1)from ud a5]at this;exact this,Z _,(a6.block _ (zd m)).trans m,(a6.block _ (zd v1)).trans v1,zh.of_below a6⟩
 case round=>
  obtain⟨f,c0,hr,a8,a2,Y,hK⟩:=hrel
  have aQ:=zd hr
  have am:S.1.size=(d.1.size+1+1):=ud a5
  rcases run_next_at (P:=prog) wr 0 (d.1.size+1+1) qb a c0 f es a hr a2 (ud HM).born a8 with⟨hz,l⟩|⟨e,a9,w1,R,l⟩
  ·have N:=hK.heap (k:=w.1.size+1) (ud au) (by omega)
   have M:wr.1[d.1.size+1]?=E (.cells #[I x.kd,I x.s.t,I x.s.sr,I x.s.wn,I x.se,I x.ti,I x.rest,I 0,I 0,I (-1),I 0] 51 (0,0)):=Y
   obtain⟨o0,o1,o2,o3,o4,o5,o6,o7,o8,o9,aX,-⟩:=zc M
   obtain⟨z0,z1,z2,z3,z4,z5,z6,z7,z8,z9,aZ,-⟩:=zc N
   have zf:=fun j=>zv N j
   have aO:=zd N
   have aN:=zd M
   have aI:¬d.1.size+1=w.1.size+1:=by omega
   have ar:=ze hK
   have av:=ze N
   clear am
   clear hz Y M hK N hr a2 a8
   go_wp2_with fail
   have hf:=zdc (ud av) (I x.kd) (I x.s.t) (I x.s.sr) (I x.s.wn) (I x.se) (I x.ti) (I x.rest) (I 0) (I 0) (I (-1)) (I 0)
   have V:=ud ar
   have aA:D w.1.size S wr:=⟨V.os,V.tape,V.output,V.size,fun j hj=>V.block j (by have:=ud a5;omega) (by omega)⟩
   have hbb:=(ud an).trans (((ud ao).mono (by omega)).trans aA)
   refine bodyPost_ret (v:=.agg #[I x.kd,I x.s.t,I x.s.sr,I x.s.wn,I x.se,I x.ti,I x.rest,I 0,I 0,I (-1),I 0]) (results_cell_row results104 _ _ (w.1.size+1) _ _ _ _ rfl hf underlying51 rfl (by kernel_rfl)) rfl ?_
   exact⟨rfl,hbb.trans (zhk (Nat.le_succ _) (I x.kd) (I x.s.t) (I x.s.sr) (I x.s.wn) (I x.se) (I x.ti) (I x.rest) (I 0) (I 0) (I (-1)) (I 0))⟩
  ·have aq:=ze a9
   obtain⟨F,aC⟩:=xw.1 a9
   have aj:w1.1[(d.1.size+1+1)]?=E (.mapIter (E qb) a f c0):=by rcases R with rfl|rfl<;>exact hr
   have ai:w1.1[qb]?=E (.map es a):=by rcases R with rfl|rfl<;>exact a2
   have ah:w1.1[d.1.size+1]?=E (QP x (⟨0,0⟩,-1,0)):=by rcases R with rfl|rfl<;>exact Y
   have aB:qb≠(d.1.size+1+1):=by omega
   obtain⟨X,hX⟩:∃X,setBlock w1 (d.1.size+1+1) (.mapIter (E qb) a (f.push e.born) a)=X:=⟨_,rfl⟩
   have r:X.1[(d.1.size+1+1)]?=E (.mapIter (E qb) a (f.push e.born) a):=by rw[<-hX];exact xL (zd aj) _
   have o:X.1[qb]?=E (.map es a):=by rw[<-hX,xi aB];exact ai
   have q:X.1[d.1.size+1]?=E (QP x (⟨0,0⟩,-1,0)):=by rw[<-hX,xi (by omega)];exact ah
   have ag:zh (fun k=>k=(d.1.size+1+1)) wr X:=by
    rw[<-hX];rcases R with rfl|rfl
    ·exact xT _
    ·exact(zh.refl (fun k=>k=(d.1.size+1+1)) wr).drew.trans (xT _) (fun _ _ h=>h)
   have z:zh (fun k=>k=d.1.size+1) S X:=hK.trans ag (fun i hi e=>by omega)
   rw[hX]at l
   have ae:=run_entry_at (P:=prog) X (d.1.size+1+1) qb a f es a e r o F (ud HM).once
   obtain⟨C,V,hv⟩:=ZS yi (ud HM) F
   obtain⟨⟨t',y⟩,al⟩:∃y,kj xF QL e=y:=⟨_,rfl⟩
   rw[al]at C V hv
   have n:e.key=yo t':=V
   have Q:e.val=vj y:=hv
   have aG:=ze n
   unfold yo at n
   unfold vj at Q
   rw[n,Q]at l ae
   have az:=zd r
   have K:=z.heap (ud aw) (by omega)
   obtain⟨aT,aU,aV,aW,-⟩:=zc K
   have aM:=zd K
   have aD:=zd q
   have af:=fun W=>zhI ⟨y.kd,y.s⟩ x.key W
   have aa:X.1[d.1.size+1]?=E (.cells #[I x.kd,I x.s.t,I x.s.sr,I x.s.wn,I x.se,I x.ti,I x.rest,I 0,I 0,I (-1),I 0] 51 (0,0)):=q
   obtain⟨-,-,-,-,-,-,-,q7,q8,q9,aY,-⟩:=zc aa
   have qf:=fun j=>zv aa j
   have HP:=ze (And.intro r (And.intro o (And.intro q (And.intro z (And.intro F (And.intro C hr))))))
   have hV:D X.1.size X ((X.alloc (.cells #[I t'.ep,I t'.num] 49)).alloc (.cells (lZz y) 164)):=((L _ _).alloc (Z _) _).alloc ((L _ _).alloc (Z _) _).size _
   have HV:=ze hV
   have u:decide ((⟨y.kd,y.s⟩:Jk)=x.key)=true\/decide ((⟨y.kd,y.s⟩:Jk)=x.key)=false:=by cases decide ((⟨y.kd,y.s⟩:Jk)=x.key)<;>simp
   clear am
   clear aj ai ah hX R V hv al a9 F aC n Q a2 r o q z ag hK Y hr a8 aa K hV
   rcases u with u|u
   ·exact absurd (of_decide_eq_true u) (hu (t',y) C)
   ·simp only[u]at af
    dsimp only[Tsk.key]at af
    clear u C
    go_wp2_with fail
    obtain⟨r,o,q,z,F,C,hr⟩:=ud HP
    have hV:=ud HV
    have ak:=(hV.block _ az).trans r
    refine⟨⟨_,_,ak,Z _,(hV.block _ (zd o)).trans o,(hV.block _ aD).trans q,Zv z hV⟩,?_⟩
    ·rw[xn ak,xn hr];exact qI (ud aq)
theorem Xd{α:Type}(a:α->α->Int)(j:∀x y z,¬a x y<0->¬a y z<0->¬a x z<0)(m:∀x,¬a x x<0)(c:∀x y,a x y<0->¬a y x<0):∀(l:List α) (f g:α),l.foldl (Yk a) (E f)=E g->¬a f g<0/\∀x∈l,¬a x g<0
 |[],f,g,h=>by
  have:f=g:=by simpa using h
  subst this
  exact⟨m _,fun x d=>by cases d⟩
 |x::l,f,g,h=>by
  rw[List.foldl_cons]at h
  by_cases d:a x f<0
  ·have e:Yk a (E f) x=E x:=by simp[Yk,d]
   rw[e]at h
   obtain⟨i,k⟩:=Xd a j m c l x g h
   refine⟨j _ _ _ (c _ _ d) i,fun y b=>?_⟩
   rcases List.mem_cons.1 b with rfl|b
   ·exact i
   ·exact k y b
  ·have e:Yk a (E f) x=E f:=by simp[Yk,d]
   rw[e]at h
   obtain⟨i,k⟩:=Xd a j m c l f g h
   refine⟨i,fun y b=>?_⟩
   rcases List.mem_cons.1 b with rfl|b
   ·exact j _ _ _ d i
   ·exact k y b
theorem Ki(c:Cf)(now:Int)(a:Bool)(x y:Tsk):KK c now a x y<0↔((a=true/\y.kd<x.kd)\/(¬(a=true/\¬x.kd=y.kd)/\(yF c now x<yF c now y\/yF c now x=yF c now y/\qp x y<0))):=by
 unfold KK zok
 generalize yF c now x=b
 generalize yF c now y=d
 cases a
 ·simp only[orL,vE]
  repeat' split
  all_goals first|(simp;omega)|(simp;done)|simp_all
 ·simp only[orL,vE]
  repeat' split
  all_goals first|(simp;omega)|(simp;done)|simp_all
theorem ziH(c:Cf)(now:Int)(a:Bool)(x y z:Tsk)(b:¬KK c now a x y<0)(d:¬KK c now a y z<0):¬KK c now a x z<0:=by
 rw[Ki,qH]at*
 generalize yF c now x=e at*
 generalize yF c now y=f at*
 generalize yF c now z=g at*
 cases a<;>simp only[Bool.false_eq_true,true_and,false_and,false_or,not_false_eq_true]at* <;>omega
theorem zcL(c:Cf)(now:Int)(a:Bool)(x:Tsk):¬KK c now a x x<0:=by
 rw[Ki,qH]
 omega
theorem ziG(c:Cf)(now:Int)(a:Bool)(x y:Tsk)(h:KK c now a x y<0):¬KK c now a y x<0:=by
 rw[Ki,qH]at*
 cases a<;>simp only[Bool.false_eq_true,true_and,false_and,false_or,not_false_eq_true]at* <;>omega
theorem zod(c:Cf)(now:Int)(a:Bool)(x y:Tsk)(b:¬KK c now a x y<0)(d:¬KK c now a y x<0):x.kd=y.kd/\x.s=y.s:=by
 rw[Ki,qH]at*
 have:x.kd=y.kd/\x.s.t=y.s.t/\x.s.sr=y.s.sr/\x.s.wn=y.s.wn:=by
  cases a<;>simp only[Bool.false_eq_true,true_and,false_and,false_or,not_false_eq_true]at* <;>omega
 refine⟨this.1,?_⟩
 obtain⟨_,⟨_,_,_⟩,_,_,_⟩:=x
 obtain⟨_,⟨_,_,_⟩,_,_,_⟩:=y
 simp only at this ⊢
 rw[this.2.1,this.2.2.1,this.2.2.2]
structure TkT(k:Tk)(x:Tsk):Prop where
 kind:k.kind=x.kd
 s:k.s=x.s
 se:k.se=x.se
theorem zbr{m:RM}{k:Tk}{x:Tsk}(h:TkT k x)(a:x.se<=m.now):m.pressR k=yF m.c m.now x:=by
 unfold RM.pressR RM.due yF Cf.end
 rw[h.kind,h.s,h.se,Int.tdiv_eq_ediv_of_nonneg (by omega)]
 unfold Tsk.kd
 cases x.rl<;>simp
theorem zgY{m:RM}{a b:Tk}{x y:Tsk}(e:TkT a x)(f:TkT b y)(g:x.se<=m.now)(h:y.se<=m.now)(d:Bool):m.aheadB d a b=decide (KK m.c m.now d x y<0):=by
 have k:XW a b=decide (qp x y<0):=by
  unfold XW
  rw[e.kind,f.kind,e.s,f.s]
  rw[Bool.eq_iff_iff,decide_eq_true_eq,qH]
  repeat' split
  all_goals(simp only[decide_eq_true_eq];omega)
 have i:x.kd=1\/x.kd=2:=by unfold Tsk.kd;split<;>simp
 have j:y.kd=1\/y.kd=2:=by unfold Tsk.kd;split<;>simp
 unfold RM.aheadB
 rw[k,zbr e g,zbr f h,e.kind,f.kind,Bool.eq_iff_iff,decide_eq_true_eq,Ki]
 generalize yF m.c m.now x=l
 generalize yF m.c m.now y=n
 generalize qp x y=bk
 cases d
 ·simp only[Bool.false_eq_true,false_and,if_false,false_or,not_false_eq_true,true_and]
  split<;>simp only[decide_eq_true_eq]<;>omega
 ·simp only[true_and]
  split
  ·simp only[decide_eq_true_eq];omega
  ·split<;>simp only[decide_eq_true_eq]<;>omega
theorem zoJ(gf:Nat)(lb:Array T)(c:Nat)(a b:Array T)(w:A):
  Calls prog 96 #[.func (.func gf) #[] lb,.func (.func c) a b] w fun e w'=>e=.returned (.func (.func 157) #[] #[(O w.1.size),(O (w.1.size+1))])/\w'=(w.alloc (.cells #[.func (.func gf) #[] lb] 174)).alloc (.cells #[.func (.func c) a b] 179):=by
 go_enter func96,ntmps96
 go_wp2_with fail
 go_ret
 exact⟨rfl,rfl⟩
theorem zoG:∀args w,(callFunc 157 args).run prog w=.ok (.enter 157 args) w:=enters_of func157 (by kernel_rfl) rfl
theorem zC.setNum{w:A}{b:Nat}{c:Cf}{tv:T}{ep num:Int}{tb qb:Nat}{TL:List (Jk×Tsk)}{QL:List (Tok×Lse)}(h:zC w b c tv ep num tb qb TL QL)(n:Int):zC (w.setCell (U b 8) (I n)) b c tv ep n tb qb TL QL:=by
 have a:zh (fun k=>k=b) w (w.setCell (U b 8) (I n)):=zg (zh.refl _ _) rfl
 exact⟨xy (i:=8) h.head (I n),h.td.kept a h.tb_ne,h.leases.kept a h.qb_ne,h.apart⟩
theorem zjt{X:A}{qb:Nat}{QL:List (Tok×Lse)}(h:xe xF X qb QL)(d:QL.length<maxLen){t:Tok}(e:t.wf)(g:Lse):
  ∃o,(Instr.mapUpdate 168 (.map (E qb)) (.agg #[I t.ep,I t.num]) (.agg (lZz g))).run prog X=.ok () (setBlock X qb o)/\xe xF (setBlock X qb o) qb (xZ QL t g)/\zh (fun k=>k=qb) X (setBlock X qb o):=by
 obtain⟨o,a,b,c,_⟩:=jr yi h d e g
 exact⟨o,a,b,c⟩
theorem zC.putLeases{w w':A}{b:Nat}{c:Cf}{tv:T}{ep num:Int}{tb qb:Nat}{TL:List (Jk×Tsk)}{QL QL':List (Tok×Lse)}(h:zC w b c tv ep num tb qb TL QL)(d:xe xF w' qb QL')(a:zh (fun k=>k=qb) w w'):zC w' b c tv ep num tb qb TL QL':=⟨a.heap h.head (fun e=>h.qb_ne e.symm),h.td.kept a h.apart,d,h.apart⟩
theorem zaP{w:A}{g:Nat}(b0 b c d e f h i j l a:T):zh (fun k=>k=g) w (((((((((((w.setCell (U g 0) b0).setCell (U g 1) b).setCell (U g 2) c).setCell (U g 3) d).setCell (U g 4) e).setCell (U g 5) f).setCell (U g 6) h).setCell (U g 7) i).setCell (U g 8) j).setCell (U g 9) l).setCell (U g 10) a):=(zg (zg (zg (zg (zg (zg (zg (zg (zg (zg (zg (zh.refl (fun k=>k=g) w) rfl) rfl) rfl) rfl) rfl) rfl) rfl) rfl) rfl) rfl) rfl)
abbrev zki(c:Cf)(now:Int):={x:Tsk//Yc c now x}
noncomputable def zoR (c:Cf) (now:Int) (h:0<=now) (x:Tsk):zki c now:=by
 classical exact if hx:Yc c now x then⟨x,hx⟩else⟨⟨true,⟨-1,0,0⟩,0,0,0⟩,⟨by simp,by show(-1:Int)<c.n;omega,by simp,by show(0:Int)<=0/\(0:Int)<=now;omega⟩⟩
theorem XQ{c:Cf}{now:Int}(h:0<=now){x:Tsk}(a:Yc c now x):(zoR c now h x).1=x:=by unfold zoR;rw[dif_pos a]
def ji(QL:List (Tok×Lse))(x:Tsk):Tok×Int×Int:=match QL.find? (fun p=>decide (p.2.job=x.key))with|some p=>(p.1,p.2.slot,p.2.til)|none=>(⟨0,0⟩,-1,0)
def ZO(QL:List (Tok×Lse))(x:Tsk):List T:=[I x.kd,I x.s.t,I x.s.sr,I x.s.wn,I x.se,I x.ti,I x.rest,I (ji QL x).1.ep,I (ji QL x).1.num,I (ji QL x).2.1,I (ji QL x).2.2]
theorem zjH(QL:List (Tok×Lse))(x:Tsk):(ZO QL x).length=11:=rfl
theorem zjI(QL:List (Tok×Lse))(x:Tsk):∀v∈ZO QL x,v.oneCell'=true:=fun v hv=>by
 simp only[ZO,List.mem_cons,List.not_mem_nil,or_false]at hv
 rcases hv with rfl|rfl|rfl|rfl|rfl|rfl|rfl|rfl|rfl|rfl|rfl<;>rfl
theorem yE{α β:Type}{f:α->β}:∀{l:List α},(l.map f).Nodup->∀x∈l,∀y∈l,f x=f y->x=y
 |[],_,x,d,_,_,_=>by cases d
 |a::l,h,x,d,y,g,e=>by
  rw[List.map_cons,List.nodup_cons]at h
  rcases List.mem_cons.1 d with rfl|c
  ·rcases List.mem_cons.1 g with rfl|b
   ·rfl
   ·exact absurd (List.mem_map.2 ⟨y,b,e.symm⟩) h.1
  ·rcases List.mem_cons.1 g with rfl|b
   ·exact absurd (List.mem_map.2 ⟨x,c,e⟩) h.1
   ·exact yE h.2 x c y b e
theorem zml{w:A}{b:Nat}{c:Cf}{tv:T}{ep num:Int}{tb qb:Nat}{TL:List (Jk×Tsk)}{QL:List (Tok×Lse)}(h:zC w b c tv ep num tb qb TL QL)(k:(QL.map (fun q=>q.2.job)).Nodup)(x:Tsk):
  Calls prog 104 #[(O b),.agg (tZz x)] w fun e w'=>e=.returned (.agg (ZO QL x).toArray)/\Below w.1.size w w':=by
 unfold ZO ji
 cases d:QL.find? (fun p=>decide (p.2.job=x.key))with
 |none=>
  refine(zjJ h x (fun p j e=>?_)).mono fun e w' a=>a
  have:=List.find?_eq_none.1 d p j
  simp[e]at this
 |some p=>
  have i:=List.mem_of_find?_eq_some d
  have g:p.2.job=x.key:=by have:=List.find?_some d;simpa using this
  exact(zez h x p.1 p.2 i g (fun q f e=>yE k q f p i (e.trans g.symm))).mono fun e w' a=>a
theorem zjG{TL:List (Jk×Tsk)}(c:∀p∈TL,p.1=p.2.key)(hn:(zj TL).Nodup):∀a∈TL.map (fun p=>p.2),∀b∈TL.map (fun p=>p.2),a.key=b.key->a=b:=fun a g b h e=>by
 obtain⟨p,d,rfl⟩:=List.mem_map.1 g
 obtain⟨q,f,rfl⟩:=List.mem_map.1 h
 rw[yE hn p d q f (by rw[c p d,c q f,e])]
structure vY(TL:List (Jk×Tsk))(ts:List Tsk):Prop where
 perm:ts.Perm (TL.map (fun p=>p.2))
 sorted:ts.Pairwise (fun a b=>¬qp b a<0)
theorem vY.one{TL:List (Jk×Tsk)}{f c:List Tsk}(h:vY TL f)(d:vY TL c)(j:∀p∈TL,p.1=p.2.key)(hn:(zj TL).Nodup):f=c:=
 VV (h.perm.trans d.perm.symm) h.sorted d.sorted (fun a g b i e=>zjG j hn a (h.perm.mem_iff.1 g) b (h.perm.mem_iff.1 i) e)
theorem vY.len{TL:List (Jk×Tsk)}{a:List Tsk}(h:vY TL a):a.length=TL.length:=by rw[h.perm.length_eq,List.length_map]
theorem zhZ{w:A}{B:Nat}{e:TypeId}{v:T}{QL:List (Tok×Lse)}{l:List Tsk}(h:w.ownsRow B e 11 v l.length (l.flatMap (ZO QL))){i:Nat}{x:Tsk}(a:l[i]?=E x):
  ∃g cap,v=.slice (E (U g 0)) l.length cap/\g<w.1.size/\∀j,j<11->w.cell? (U g (i*11+j))=(ZO QL x)[j]?:=by
 have d:i<l.length:=(List.getElem?_eq_some_iff.1 a).1
 obtain⟨g,cap,hv,_,c⟩:=h.form (by omega)
 subst hv
 refine⟨g,cap,rfl,c,fun j b=>?_⟩
 rw[h.cellAt (i*11+j) (by omega)]
 exact kI (zjH QL) l i x j a b
end Go.Proofs.YtndhpgciopcncaaGreatDoor
namespace Go.Proofs.YtndhpgciopcncaaGreatDoor
open Go.RowKit Go.Maps Go.Shelf Go.Sort
theorem zkR{w:A}{base g cap:Nat}{e:TypeId}{xs:List Tsk}(h:w.ownsRow base e 4 (.slice (E (U g 0)) xs.length cap) xs.length (xs.flatMap Vf)):HoldsK Vf 4 w g 0 xs.toArray:=fun j c=>by
 have hj':j<xs.length*4:=by simpa[size_flatK]using c
 rw[Nat.zero_add]
 refine⟨?_,h.frozenAt j⟩
 rw[h.cellAt j hj',get_flatK _ _ _ _ (by simpa using hj')]
 have b:j/4<xs.length:=by omega
 have:=kI zaa xs (j/4) xs[j/4] (j%4) (by simp[b]) (by omega)
 rw[show j/4*4+j%4=j by omega]at this
 rw[this,getElem!_pos xs.toArray (j/4) (by simpa using b)]
 have a:j%4<(Vf xs[j/4]).length:=by rw[zaa];omega
 simp only[id,List.getElem_toArray]
 rw[getElem!_pos (Vf xs[j/4]) (j%4) a,List.getElem?_eq_getElem a]
theorem zcj(gf:Nat)(lb:Array T)(i:∀args w,(callFunc gf args).run prog w=.ok (.enter gf args) w){N:Nat}{S:List Tsk->Prop}(w:A)(j:N<=1000000)
  (c:Yb Fence.wide 6 prog gf lb (fun x:Tsk=>#[.agg (tZz x)]) KeepsWalks S (fun _=>True) N 0 w):
  Calls prog 164 #[.func (.func gf) #[] lb] w fun e w'=>∃xs a cap,S xs/\e=.returned (.slice a xs.length cap)/\w'.ownsRow w.1.size 177 4 (.slice a xs.length cap) xs.length (xs.flatMap Vf)/\D w.1.size w w':=by
 have d:=ze (zhd gf lb i w j c)
 clear c
 go_enter func164,ntmps164
 go_wp2_with fail
 refine(ud d).mono ?_
 rintro e w' ⟨xs,v,k,rfl,b,f⟩
 obtain⟨a,cap,rfl⟩:=zS b
 have h:=ze b
 have g:=ze f
 clear b f d
 go_wp2_with fail
 go_ret
 exact⟨xs,a,cap,k,rfl,ud h,ud g⟩
theorem zjm{w:A}{Bm b:Nat}{TL:List (Jk×Tsk)}(z:Bm<w.1.size)(I:w.cell? (U Bm 0)=E (.map (E b)))(c:xe xY w b TL)(f:TL.length<=1000000):
  Calls prog 105 #[.func (.func 158) #[] #[(O Bm)],.func (.func 106) #[] #[]] w fun e w'=>
   ∃u a cap,vY TL u/\e=.returned (.slice a u.length cap)/\(u≠[]->∃g,a=E (U g 0)/\g<w'.1.size/\HoldsK Vf 4 w' g 0 u.toArray)/\D w.1.size w w':=by
 have F:=ze (zcj _ _ zmB w f (znH id id Bm b TL (fun _ _=>rfl) w z I c))
 clear I c
 go_enter func105,ntmps105
 go_wp2_with fail
 refine(ud F).mono ?_
 rintro e N ⟨xs,a,cap,⟨ps,K,M⟩,rfl,c,i⟩
 have k:xs.Perm (TL.map (fun p=>p.2)):=by rw[M];exact K.map _
 clear F M K
 have m:=ze k
 have X:xs.length<=1000000:=by rw[k.length_eq,List.length_map];exact f
 clear k
 by_cases S:xs.length=0
 ·have o:xs=[]:=List.length_eq_zero_iff.1 S
  subst o
  have t:=ze (zjo a cap N)
  have v:=ze i
  clear c i
  simp only[List.length_nil]
  go_wp2_with fail
  refine(ud t).mono ?_
  rintro e Y ⟨rfl,rfl⟩
  go_wp2_with fail
  go_ret
  exact⟨[],a,cap,⟨ud m,List.Pairwise.nil⟩,rfl,fun h=>absurd rfl h,ud v⟩
 ·obtain⟨g,H,hv,hg,n⟩:=c.form (by omega)
  injection hv with B W C
  subst B C
  have t:=ze (zlS g cap xs N (zkR c) n (by omega))
  have v:=ze i
  clear c i
  go_wp2_with fail
  refine(ud t).mono ?_
  rintro e Y ⟨rfl,P,l,s,q,d⟩
  have Q:=ze d
  have R:=ze q
  have x:=ze l
  have y:=ze s
  have r:xs.length=P.length:=l.length_eq.symm
  rw[r]
  clear d q t l r s
  go_wp2_with fail
  go_ret
  have d:=ud Q
  have i:=ud v
  exact⟨P,E (U g 0),cap,⟨(ud x).trans (ud m),(ud y).imp (fun h=>by omega)⟩,rfl,fun _=>⟨g,rfl,J n d.size,ud R⟩,i.trans ⟨d.os,d.tape,d.output,d.size,fun j V=>d.block j (J V i.size) (by omega)⟩⟩
end Go.Proofs.YtndhpgciopcncaaGreatDoor
namespace Go.Proofs.YtndhpgciopcncaaGreatDoor
open Go.ChangeMaps (setBlock)
open Go.RowKit Go.Maps Go.Shelf
theorem Qg{m:RM}:∀(n:Nat),m.bestI n=none->∀i x,i<n->m.td[i]?=E x->m.freeT x=false
 |0,_,i,x,b,_=>absurd b (Nat.not_lt_zero _)
 |n+1,h,i,x,b,c=>by
  rw[Qh]at h
  cases a:m.bestI n with
  |some j=>
   rw[a]at h
   unfold RM.betterI at h
   split at h
   ·cases h
   ·split at h
    ·simp only at h
     split at h
     ·cases h
     ·split at h<;>cases h
    ·cases h
  |none=>
   by_cases e:i=n
   ·subst e
    cases d:m.freeT x with
    |false=>rfl
    |true=>rw[a,QI c d]at h;cases h
   ·exact Qg n a i x (by omega) c
theorem jz{m:RM}(f:Tk->Tsk)(g:∀k∈m.td,TkT k (f k)/\(f k).se<=m.now):∀(n j:Nat) (l:Tk),m.bestI n=E j->m.td[j]?=E l->∀i x,i<n->m.td[i]?=E x->m.freeT x=true->¬KK m.c m.now m.tight (f x) (f l)<0
 |0,j,l,h,d,i,x,u,_,_=>absurd u (Nat.not_lt_zero _)
 |n+1,j,l,h,d,i,x,u,b,a=>by
  rw[Qh]at h
  have B:=g l (List.mem_of_getElem? d)
  have C:=g x (List.mem_of_getElem? b)
  cases hn:m.td[n]? with
  |none=>
   have e:m.betterI (m.bestI n) n=m.bestI n:=by unfold RM.betterI;rw[hn]
   rw[e]at h
   have:¬i=n:=fun e=>by subst e;rw[hn]at b;cases b
   exact jz f g n j l h d i x (by omega) b a
  |some y=>
   have p:=g y (List.mem_of_getElem? hn)
   cases s:m.freeT y with
   |false=>
    rw[zhm hn s]at h
    have:¬i=n:=fun e=>by subst e;rw[hn]at b;cases b;rw[s]at a;cases a
    exact jz f g n j l h d i x (by omega) b a
   |true=>
    cases o:m.bestI n with
    |none=>
     rw[o,QI hn s]at h
     cases h
     rw[hn]at d;cases d
     by_cases e:i=n
     ·subst e;rw[hn]at b;cases b;exact zcL _ _ _ _
     ·have:=Qg n o i x (by omega) b
      rw[this]at a;cases a
    |some j'=>
     obtain⟨v,z,t,F⟩:=Yn m n o
     have q:=g z (List.mem_of_getElem? t)
     have w:=jz f g n j' z o t
     rw[o,zeN hn s t,zgY p.1 q.1 p.2 q.2]at h
     by_cases r:KK m.c m.now m.tight (f y) (f z)<0
     ·rw[if_pos (by simpa using r)]at h
      cases h
      rw[hn]at d;cases d
      by_cases e:i=n
      ·subst e;rw[hn]at b;cases b;exact zcL _ _ _ _
      ·exact ziH _ _ _ _ (f z) _ (w i x (by omega) b a) (ziG _ _ _ _ _ r)
     ·rw[if_neg (by simpa using r)]at h
      cases h
      rw[t]at d;cases d
      by_cases e:i=n
      ·subst e;rw[hn]at b;cases b;exact r
      ·exact w i x (by omega) b a
def YC(c:Cf)(now:Int)(a:Bool)(QL:List (Tok×Lse))(TL:List (Jk×Tsk))(x:Tsk):Prop:=∀q∈TL,yO QL now q.2=true->¬KK c now a q.2 x<0
theorem zaD{c:Cf}{now:Int}{a:Bool}{l:List (zki c now)}{g:zki c now}(h:Z8 (fun x y:zki c now=>KK c now a x.1 y.1) l=E g):∀x∈l,¬KK c now a x.1 g.1<0:=by
 cases l with
 |nil=>simp[Z8]at h
 |cons f l=>
  obtain⟨d,e⟩:=Xd (fun x y:zki c now=>KK c now a x.1 y.1) (fun x y z=>ziH c now a x.1 y.1 z.1) (fun x=>zcL c now a x.1) (fun x y=>ziG c now a x.1 y.1) l f g h
  intro x b
  rcases List.mem_cons.1 b with rfl|b
  ·exact d
  ·exact e x b
theorem zeO{w:A}{b:Nat}{c:Cf}{a:Option Addr}{cap:Nat}{ep num:Int}{tb qb:Nat}{TL:List (Jk×Tsk)}{QL:List (Tok×Lse)}(h:zC w b c (.slice a c.n cap) ep num tb qb TL QL)(hc:c.ok)(aE:TS w a c.n c.F c.W c.K)(now:Int)(f:Bool)(d:0<=now/\now<=100000)(hT:∀p∈TL,Yc c now p.2)(aD:QL.length<=100000):
  Calls prog 48 #[(O b),I now,.bool f] w fun e w'=>D w.1.size w w'/\((e=.returned (.tuple #[.nilIface,.bool false])/\∀p∈TL,yO QL now p.2=false)\/∃p,p∈TL/\yO QL now p.2=true/\YC c now f QL TL p.2/\e=.returned (.tuple #[(jZz p.2),.bool true])):=by
 have aO:=h.lt
 obtain⟨y0,y1,a8,yz⟩:=box2 w (.cells #[(O b)] 91) (.cells #[I now] 3)
 have hX:=h.later a8
 have x9:=hX.cell9
 have aN:=hX.lt
 obtain⟨m0,-⟩:=zc y0
 obtain⟨m1,-⟩:=zc y1
 have au:=ze (zhW tb ((w.alloc (.cells #[(O b)] 91)).alloc (.cells #[I now] 3)))
 have Y0:=ze y0
 have Y1:=ze y1
 have a3:=ze a8
 have YZ:=ze yz
 have H:=ze h
 have a9:=zd y0
 have aa:=zd y1
 clear h hX y0 y1 a8 yz
 go_enter func48,ntmps48
 go_wp2_with fail
 generalize((w.alloc (.cells #[(O b)] 91)).alloc (.cells #[I now] 3))=X at*
 refine(ud au).mono ?_
 rintro e i ⟨rfl,N⟩
 have P:D X.1.size X i:=by rw[N];exact(L _ _).alloc (Z _) _
 have ae:i.1[X.1.size]?=E (.cells #[.map (E tb)] 169 (0,0)):=by rw[N];exact zp _ _
 have aj:i.1.size=X.1.size+1:=by rw[N];exact zN _ _
 have av:=ze (zoJ 158 #[(O X.1.size)] 98 #[] #[(O (w.1.size+1)),(O w.1.size)] i)
 have n0:=(P.cell (p:=(U w.1.size 0)) a9).trans m0
 have n1:=(P.cell (p:=(U (w.1.size+1) 0)) aa).trans m1
 have l:=ze P
 have an:=ze ae
 have aw:=ze aj
 clear N P ae aj m0 m1 x9
 go_wp2_with fail
 refine(ud av).mono ?_
 rintro e j ⟨rfl,ad⟩
 obtain⟨ai,ah,Q,ak⟩:j.1[i.1.size]?=E (.cells #[.func (.func 158) #[] #[(O X.1.size)]] 174 (0,0))/\j.1[i.1.size+1]?=E (.cells #[.func (.func 98) #[] #[(O (w.1.size+1)),(O w.1.size)]] 179 (0,0))/\D i.1.size i j/\j.1.size=i.1.size+2:=by rw[ad];exact box2 i _ _
 have a1:=J a9 (ud l).size
 have a2:=J aa (ud l).size
 have q0:=(Q.cell (p:=(U w.1.size 0)) a1).trans n0
 have q1:=(Q.cell (p:=(U (w.1.size+1) 0)) a2).trans n1
 have ar:=ze ai
 have ap:=ze ah
 have B:=ze Q
 have ax:=ze ak
 clear ad ai ah Q ak n0 n1
 go_wp2_with fail
 have ao:=ze (ziI b now f j)
 refine(ud ao).mono ?_
 rintro e X3 ⟨rfl,hO,o,aF⟩
 have S:D w.1.size w j:=(ud a3).trans (((ud l).mono (ud a3).size).trans ((ud B).mono (by have:=(ud l).size;have:=(ud a3).size;omega)))
 have k:=S.trans (o.mono S.size)
 have hZ:X.1.size=w.1.size+2:=ud YZ
 have ay:i.1.size=X.1.size+1:=ud aw
 have az:j.1.size=i.1.size+2:=ud ax
 have a6:=(ud H).later S
 have a0:=((ud B).block _ (by omega)).trans (ud an)
 have Y:=((ud B).block _ a2).trans (((ud l).block _ aa).trans (ud Y1))
 have V:=((ud B).block _ a1).trans (((ud l).block _ a9).trans (ud Y0))
 have u:=zpj (fun x:zki c now=>x.1) (zoR c now d.1) (ex:=fun _=>False) (n:=j.1.size) X.1.size tb TL (fun p R=>XQ d.1 (hT p R)) j (fun e=>e) (by omega) (by rw[xH a0];rfl) a6.td
 have v:=zjT (fun x:zki c now=>x.1) 158 #[(O X.1.size)] zmB 98 #[] #[(O (w.1.size+1)),(O w.1.size)] zbh (fun x=>yO QL now x.1) i.1.size (i.1.size+1) j (Z _) ⟨by omega,fun e=>e⟩ ⟨by omega,fun e=>e⟩ (ud ar) (ud ap)
  (fun x W ⟨m,hk⟩=>by
   have a7:=Yr hk (Z _)
   have g1:=(a7.block _ (by omega)).trans Y
   have g0:=(a7.block _ (by omega)).trans V
   exact ziM (a6.later a7) x.1 now aD (w.1.size+1) w.1.size (zd g1) (zd g0) (by rw[xH g1];rfl) (by rw[xH g0];rfl)) u
 have HF:=ze (zfd (fun x:zki c now=>x.1) 157 #[(O i.1.size),(O (i.1.size+1))] zoG 161 #[(O (j.1.size+2)),(O (j.1.size+3))] zbe (fun x y=>KK c now f x.1 y.1) X3 (G (Z _) o.size)
  (fun x y W hW=>zfA ((ud H).later (k.trans (hW.mono k.size))) hc (aE.below (k.trans (hW.mono k.size))) now d f j.1.size (hO.later hW) x.1 y.1 x.2 y.2)
  (v.later o))
 have r2:=(k.block)
 have C:=ze k
 have aG:w.1.size<j.1.size:=by omega
 have aH:w.1.size+1<j.1.size:=by omega
 have al:=(o.cell (p:=(U w.1.size 0)) aG).trans q0
 have am:=(o.cell (p:=(U (w.1.size+1) 0)) aH).trans q1
 have aK:w.1.size+1<X3.1.size:=by omega
 clear S k a6 a0 Y V u v hO o r2 q0 q1 hZ ay az aF
 go_wp2_with fail
 refine(ud HF).mono ?_
 rintro e X4 ⟨xs,hS,rfl,r⟩
 have aI:w.1.size<X3.1.size:=by omega
 have aJ:w.1.size+1<X3.1.size:=by omega
 have z0:=(r.cell (p:=(U w.1.size 0)) aI).trans al
 have z1:=(r.cell (p:=(U (w.1.size+1) 0)) aJ).trans am
 have ac:=(ud H).later ((ud C).trans (r.mono (ud C).size))
 have aM:=ze ac
 have M:=ze ((ud C).trans (r.mono (ud C).size))
 have aL:=r.size
 have a4:=ze hS
 clear HF al am ac r hS
 rcases zhN (fun x y:zki c now=>KK c now f x.1 y.1) xs with⟨ag,hf⟩|⟨g,hg,hf⟩
 ·rw[hf]
  dsimp only[Option.map_none,KP,Option.isSome_none]
  have z:=(ud M).alloc (ud M).size (.cells #[.nilIface,I 0,I 0,I 0] 177)
  have a5:=ze z
  clear hf z
  go_wp2_with fail
  go_ret2
  refine⟨ud a5,.inl ⟨rfl,fun p R=>?_⟩⟩
  obtain⟨zs,⟨ps,s,rfl⟩,t⟩:=ud a4
  rw[ag]at t
  cases aA:yO QL now p.2 with
  |false=>rfl
  |true=>
   have:zoR c now d.1 p.2∈(ps.map (fun p:Jk×Tsk=>zoR c now d.1 p.2)).filter (fun x=>yO QL now x.1):=List.mem_filter.2 ⟨List.mem_map.2 ⟨p,s.mem_iff.2 R,rfl⟩,by rw[XQ d.1 (hT p R)];exact aA⟩
   rw[<-t]at this;simp at this
 ·rw[hf]
  dsimp only[Option.map_some,KP,Qb,Option.isSome_some]
  have ab:Hid (YC c now f QL TL g.1):=fun q hq aB=>by
   obtain⟨zs,⟨ps,s,rfl⟩,t⟩:=ud a4
   have af:zoR c now d.1 q.2∈xs:=by rw[t];exact List.mem_filter.2 ⟨List.mem_map.2 ⟨q,s.mem_iff.2 hq,rfl⟩,by rw[XQ d.1 (hT q hq)];exact aB⟩
   have:=zaD hf _ af
   rw[XQ d.1 (hT q hq)]at this
   exact this
  obtain⟨x,hx⟩:=g
  have aq:Hid (∃p,p∈TL/\p.2=x/\yO QL now x=true):=by
   obtain⟨zs,⟨ps,s,rfl⟩,t⟩:=ud a4
   rw[t]at hg
   obtain⟨h1,h2⟩:=List.mem_filter.1 hg
   obtain⟨p,R,e⟩:=List.mem_map.1 h1
   have e2:=congrArg Subtype.val e
   rw[XQ d.1 (hT p (s.mem_iff.1 R))]at e2
   exact⟨p,s.mem_iff.1 R,e2,h2⟩
  clear hf hg
  have z:=(ud M).alloc (ud M).size (.cells (tZz x) 177)
  have a5:=ze z
  clear z
  go_wp2_with fail
  go_ret2
  obtain⟨p,R,rfl,aC⟩:=ud aq
  exact⟨ud a5,.inr ⟨p.1,p.2,R,aC,ud ab,rfl⟩⟩
end Go.Proofs.YtndhpgciopcncaaGreatDoor
namespace Go.Proofs.YtndhpgciopcncaaGreatDoor
open Go.RowKit Go.Maps Go.Shelf Go.Sort
theorem Tryz.infoJob:(prog.info? 51).map (fun i=>(i.zero,i.size,i.bytes))=E (E (.agg #[I 0,I 0,I 0,I 0,I 0,I 0,I 0,I 0,I 0,I 0,I 0]),11,88):=by kernel_rfl
theorem zlw{w:A}{ops:Array Oper}{rest:List Oper}{o:Oper}{a:Act}{Q:Exit->Act->A->Prop}(e:o.guard=none)(s y:Operand)
  (k:o.op=.call {callee:=.builtin .append,args:=#[s,y],argTypes:=#[55,55]}) (base:Nat) (v:T) (QL:List (Tok×Lse)) (l:List Tsk) (x:Tsk) (n:Nat) (m:a.eval s=v) (b:w.ownsRow base 51 11 v n (l.flatMap (ZO QL)))
  (c:Nat) (p:a.eval y=.slice (E (U c 0)) 1 1) (d:w.1[c]?=E (.cells #[I x.kd,I x.s.t,I x.s.sr,I x.s.wn,I x.se,I x.ti,I x.rest,I (ji QL x).1.ep,I (ji QL x).1.num,I (ji QL x).2.1,I (ji QL x).2.2] 51 (0,0))) (u:n<=1000000) (hbase:base<=w.1.size)
  (h:∀g cap w',w'.ownsRow base 51 11 (.slice (E (U g 0)) (n+1) cap) (n+1) ((l++[x]).flatMap (ZO QL))->w.grownBy w' v.ownBlock->g<w'.1.size->wpList prog ops Q rest (a.put o.dst (.slice (E (U g 0)) (n+1) cap)) w'):wpList prog ops Q (o::rest) a w:=
 xM e s y 55 k base 51 _ 11 88 underlying55 Tryz.infoJob rfl (by decide) v n (l.flatMap (ZO QL)) m b (U c 0) 1 1 (ZO QL x) p rfl
  (World.news_of_block (cs:=(ZO QL x).toArray) d) (zjI QL x) (by decide) (by simp only[maxLen];omega) (by omega) hbase
  fun g cap w' f q i r j=>h g cap w' (by rw[List.flatMap_append];simpa using f) i j
theorem zli{w:A}{b:Nat}{c:Cf}{tv:T}{ep num:Int}{tb qb:Nat}{TL:List (Jk×Tsk)}{QL:List (Tok×Lse)}(h:zC w b c tv ep num tb qb TL QL)(hu:(QL.map (fun q=>q.2.job)).Nodup)(B:TL.length<=1000000):
  Calls prog 50 #[(O b)] w fun e w'=>∃d a cap,vY TL d/\e=.returned (.slice a d.length cap)/\w'.ownsRow w.1.size 51 11 (.slice a d.length cap) d.length (d.flatMap (ZO QL))/\D w.1.size w w':=by
 have ac:=h.lt
 have c9:=h.cell9
 have HV:=ze (zhW tb w)
 have b0:=zp w (.cells #[.map (E tb)] 169)
 have N:D w.1.size w (w.alloc (.cells #[.map (E tb)] 169)):=(L _ _).alloc (Z _) _
 have HS:=ze (zjm (w:=w.alloc (.cells #[.map (E tb)] 169)) (Bm:=w.1.size) (b:=tb) (TL:=TL) (by rw[zN];omega) (by rw[xH b0];rfl) (h.later N).td B)
 have H:=ze h
 have S:=ze N
 clear h b0 N
 go_enter func50,ntmps50
 go_wp2_with fail
 refine(ud HV).mono ?_
 rintro e w0 ⟨rfl,rfl⟩
 go_wp2_with fail
 refine(ud HS).mono ?_
 rintro e M ⟨d,a,cap,hJ,rfl,F,X⟩
 have u:=(ud S).trans (X.mono (ud S).size)
 clear c9 HV HS X
 have HJ:=ze hJ
 have HR:=ze F
 have HB:=ze u
 clear hJ F u
 go_wp2_with fail
 have R:w.1.size<=M.1.size:=(ud HB).size
 have ag:d.length<=1000000:=by rw[(ud HJ).len];exact B
 go_loopw [3,5,13] (fun o _ y wr=>∃(k:Nat),k<=d.length/\y=I k/\wr.ownsRow M.1.size 51 11 o k ((d.take k).flatMap (ZO QL))/\RowKit.Below M.1.size M wr) (fun _ _ y _=>d.length-(intOf y).toNat)
 case atStart=>exact⟨0,Nat.zero_le _,rfl,World.ownsRow_nil _ _ _ _,L _ _⟩
 case round=>
  obtain⟨k,hk,rfl,K,u⟩:=hrel
  obtain⟨az,cz,a8⟩:=zS K
  subst a8
  by_cases r:k<d.length
  ·obtain⟨g,a6,a0,hH⟩:=ud HR (fun e=>by rw[e]at r;simp at r)
   subst a6
   obtain⟨x,hx⟩:=ki r
   have aa:(k:Int)<d.length:=by omega
   have n:∀j,j<4->wr.cell? (U g (k*4+j))=E (Vf x)[j]!:=fun j hj=>by
    have h1:=(hH.cell (i:=k) (c:=j) (by simpa using r) hj).1
    rw[Nat.zero_add]at h1
    rw[u.cell (p:=(U g (k*4+j))) a0,h1]
    obtain⟨a1,Q⟩:=List.getElem?_eq_some_iff.1 hx
    rw[getElem!_pos d.toArray k (by simpa using r)]
    simp only[List.getElem_toArray,Q]
   have x0:Cz wr g (k*4) (jZz x):=n 0 (by omega)
   have x1:Cz wr g (k*4+1) (I x.se):=n 1 (by omega)
   have x2:Cz wr g (k*4+2) (I x.ti):=n 2 (by omega)
   have x3:Cz wr g (k*4+3) (I x.rest):=n 3 (by omega)
   have ad:=J a0 u.size
   have P:RowKit.Below wr.1.size wr (wr.alloc (.cells (tZz x) 177)):=(L _ _).alloc (Z _) _
   have Y:RowKit.Below w.1.size w wr:=(ud HB).trans (u.mono R)
   have W:=((ud H).later Y).later P
   have HT:=ze (zml W hu x)
   have a2:=zp wr (.cells (tZz x) 177)
   obtain⟨e0,e1,e2,e3,-⟩:=zc a2
   have HZ:=ze K
   have l:=ze u
   have v:=ze P
   have HX:=ze hx
   clear K u P hx W a2 hH n HR Y
   go_wp2_with fail
   refine(ud HT).mono ?_
   rintro e w2 ⟨he,z⟩
   subst he
   unfold ZO
   have a3:=ze z
   have V:=ze (zi (zi (ud HZ) (zh.of_below (f:=fun _=>False) (ud v)) (fun _ _ e=>e)) (zh.of_below (f:=fun _=>False) z) (fun _ _ e=>e))
   have af:M.1.size<=w2.1.size:=G (ud l).size (G (ud v).size z.size)
   clear z HT e0 e1 e2 e3 x0 x1 x2 x3
   go_wp2_with(first|(at_builtin;refine zlw rfl _ _ rfl M.1.size _ QL (d.take k) x k rfl ((ud V).alloc _) w2.1.size rfl (zp _ _) ?hll ?hbb ?_;(case hll=>omega);(case hbb=>(rw[zN];omega));intro g2 a9 w3 C m ab;have a5:=ze C;have a4:=ze m;clear C m)|fail)
   go_roundw
   case rel=>
    obtain⟨a1,Q⟩:=List.getElem?_eq_some_iff.1 (ud HX)
    refine⟨k+1,by omega,by go_num,?_,?_⟩
    ·rw[List.take_succ_eq_append_getElem a1,Q];exact ud a5
    ·have hg:(w2.alloc (.cells #[I x.kd,I x.s.t,I x.s.sr,I x.s.wn,I x.se,I x.ti,I x.rest,I (ji QL x).1.ep,I (ji QL x).1.num,I (ji QL x).2.1,I (ji QL x).2.2] 51)).grownBy w3 (Value.slice az k cz).ownBlock:=ud a4
     have hbb:RowKit.Below M.1.size M w2:=(ud l).trans (((ud v).mono (ud l).size).trans ((ud a3).mono (G (ud l).size (ud v).size)))
     exact(hbb.alloc hbb.size _).grown hg (by rw[zN];omega) (fun j e=>((ud V).lt j e).1)
   case measure=>simp[intOf];omega
  ·have a7:k=d.length:=by omega
   subst a7
   have ae:decide ((d.length:Int)<d.length)=false:=by simp
   have HZ:=ze K
   have l:=ze u
   clear K u HR
   go_wp2_with fail
   go_ret
   have K:=ud HZ
   rw[List.take_length]at K
   exact⟨d,az,cz,ud HJ,rfl,kq K R,(ud HB).trans ((ud l).mono R)⟩
end Go.Proofs.YtndhpgciopcncaaGreatDoor
