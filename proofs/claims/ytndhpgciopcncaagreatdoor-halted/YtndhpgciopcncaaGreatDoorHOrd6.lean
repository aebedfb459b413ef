import Derived.Test.YtndhpgciopcncaaGreatDoorHOrd4
import Derived.Sort.Grow
import Derived.Sort.Statements
import Derived.Deep.Draws
import Derived.Shelf.SlSortCmp.WholeK
import Derived.Shelf.SlSortCmp.NoneTotal
import Derived.Test.YtndhpgciopcncaaGreatDoorHRefU
open Nat renaming lt_of_lt_of_le → J
open Option renaming some → E
open Nat renaming le_refl → Z
open Go.RowKit renaming Below → A
open Nat renaming le_trans → D
open Go.RowKit.Below renaming refl → G
open Go renaming World → L
set_option linter.unusedVariables false
set_option maxRecDepth 20000
set_option maxHeartbeats 8000000
open Go.Proofs.Tryz
namespace Go.Proofs.YtndhpgciopcncaaGreatDoor
open Go.ChangeMaps (setBlock)
open Go.RowKit Go.Maps Go.Shelf
variable {c:Cf} {ep num:Int} {TL:List (Jk×Tsk)} {QL:List (Tok×Lse)} {b cap qb tb:Nat} {a:Option Addr} {w:L}
theorem byKey_any(x y:Tsk)(w:L):
  Calls prog 106 #[.agg (tZz x),.agg (tZz y)] w (Rz w (I (qE x y))):=
 (Dr.byKey_any x y w).mono fun e w' ⟨a,b⟩=>⟨a,b.bel⟩
structure YS(c:Cf)(now:Int)(x:Tsk):Prop where
 t1: -1<=x.s.t
 t2:x.s.t<c.n
 wn:0<=x.s.wn/\x.s.wn<=100000
 se:0<=x.se/\x.se<=now
def yM(c:Cf)(now:Int)(x:Tsk):Int:=match x.rl with
 |true=>(x.s.wn+1)*c.wh x.s.t-(now-x.se)/4
 |false=>(x.s.wn+1)*c.wh x.s.t+c.keep x.s.t-(now-x.se)/4
theorem zbW(h:zC w b c (.slice a c.n cap) ep num tb qb TL QL)(m:c.ok)(j:TS w a c.n c.F c.W c.K)(now:Int)(d:0<=now/\now<=100000)(x:Tsk)(f:YS c now x)(g i:Nat)(l1:g<w.1.size)(l2:i<w.1.size)(k:w.cell? (U g 0)=E (O b))(l:w.cell? (U i 0)=E (I now)):
  Calls prog 160 #[.agg (tZz x),(O g),(O i)] w fun e w'=>e=.returned (I (yM c now x))/\A w.1.size w w':=by
 obtain⟨rl,s,se,ti,rest⟩:=x;cases rl with
 |true=>exact zgg h m j s se ti rest now f.t1 f.t2 f.wn d f.se g i l1 l2 k l
 |false=>exact zag h m j s se ti rest now f.t1 f.t2 f.wn d f.se g i l1 l2 k l
def zoK(a:Bool)(x y:Tsk):Int:=match a with
 |true=>vT y.kd x.kd
 |false=>0
def Vh(c:Cf)(now:Int)(a:Bool)(x y:Tsk):Int:=orL [zoK a x y,vT (yM c now x) (yM c now y),qE x y]
theorem zit(s:Sg)(w:L):Calls prog 334 #[.agg #[I s.t,I s.sr,I s.wn]] w fun e w'=>e=.returned (I 1)/\A w.1.size w w':=by
 go_enter func334,ntmps334;go_wp2_with fail;go_ret;first|exact⟨rfl,(G _ _).alloc (Z _) _⟩|exact⟨rfl,G _ _⟩
theorem zis(s:Sg)(w:L):Calls prog 337 #[.agg #[I s.t,I s.sr,I s.wn]] w fun e w'=>e=.returned (I 2)/\A w.1.size w w':=by
 go_enter func337,ntmps337;go_wp2_with fail;go_ret;first|exact⟨rfl,(G _ _).alloc (Z _) _⟩|exact⟨rfl,G _ _⟩
theorem zby(x:Tsk):∃f:Nat,(∀w,(method 518 x.jt (.agg #[I x.s.t,I x.s.sr,I x.s.wn]) "Kind").run prog w=.ok (f,.agg #[I x.s.t,I x.s.sr,I x.s.wn]) w)/\(∀w,Calls prog f #[.agg #[I x.s.t,I x.s.sr,I x.s.wn]] w fun e w'=>e=.returned (I x.kd)/\A w.1.size w w')/\(∀args w,(callFunc f args).run prog w=.ok (.enter f args) w):=by
 obtain⟨rl,s,se,ti,rest⟩:=x;cases rl with
 |true=>exact⟨334,jm s,zit s,enters_of func334 (by kernel_rfl) rfl⟩
 |false=>exact⟨337,kt s,zis s,enters_of func337 (by kernel_rfl) rfl⟩
theorem zfZ(h:zC w b c (.slice a c.n cap) ep num tb qb TL QL)(hc:c.ok)(aS:TS w a c.n c.F c.W c.K)(now:Int)(ao:0<=now/\now<=100000)(Q:Bool)(q:Nat)(hO:zgW w b now Q q)(x y:Tsk)(hx:YS c now x)(hy:YS c now y):
  Calls prog 161 #[.agg (tZz x),.agg (tZz y),(O (q+2)),(O (q+3))] w fun e w'=>e=.returned (I (Vh c now Q x y))/\A w.1.size w w':=by
 obtain⟨t0,-⟩:=zc hO.b2;have b5:=zd hO.b2;obtain⟨b1,b2,ab,bz⟩:=box2 w (.cells (tZz x) 177) (.cells (tZz y) 177);have b3:=(ab.block _ (zd hO.b3)).trans hO.b3;obtain⟨x0,x1,x2,x3,-⟩:=zc b1;obtain⟨x4,x5,x6,x7,-⟩:=zc b2;obtain⟨x8,-⟩:=zc b3;have be:=hO.later ab;have bc:=zd hO.b0;have bd:=zd hO.b1;have bb:=zd hO.b3;have ag:Hid (∀V:L,A ((w.alloc (.cells (tZz x) 177)).alloc (.cells (tZz y) 177)).1.size ((w.alloc (.cells (tZz x) 177)).alloc (.cells (tZz y) 177)) V->w.1.size<=w.1.size->Hid (Calls prog 160 #[.agg (tZz x),(O q),(O (q+1))] V fun e w'=>e=.returned (I (yM c now x))/\A V.1.size V w')):=fun V hV _=>by
  have hw:=ab.trans (hV.mono ab.size);have aa:=hO.later hw;exact zbW (h.later hw) hc (aS.below hw) now ao x hx q (q+1) (zd aa.b0) (zd aa.b1) (by rw[xR aa.b0];rfl) (by rw[xR aa.b1];rfl)
 have ah:Hid (∀V:L,A ((w.alloc (.cells (tZz x) 177)).alloc (.cells (tZz y) 177)).1.size ((w.alloc (.cells (tZz x) 177)).alloc (.cells (tZz y) 177)) V->w.1.size<=w.1.size->Hid (Calls prog 160 #[.agg (tZz y),(O q),(O (q+1))] V fun e w'=>e=.returned (I (yM c now y))/\A V.1.size V w')):=fun V hV _=>by
  have hw:=ab.trans (hV.mono ab.size);have aa:=hO.later hw;exact zbW (h.later hw) hc (aS.below hw) now ao y hy q (q+1) (zd aa.b0) (zd aa.b1) (by rw[xR aa.b0];rfl) (by rw[xR aa.b1];rfl)
 obtain⟨R,hR⟩:∃R,zoK Q x y=R:=⟨_,rfl⟩;obtain⟨PX,aO⟩:∃PX,yM c now x=PX:=⟨_,rfl⟩;obtain⟨PY,aP⟩:∃PY,yM c now y=PY:=⟨_,rfl⟩;obtain⟨CP,aN⟩:∃CP,vT PX PY=CP:=⟨_,rfl⟩;obtain⟨BK,aM⟩:∃BK,qE x y=BK:=⟨_,rfl⟩;have aK:Hid (Vh c now Q x y=orL [R,CP,BK]):=by show _=_;unfold Vh;rw[hR,aO,aP,aN,aM]
 rw[aO]at ag;rw[aP]at ah;have av:=fun W=>ze (byKey_any x y W);simp only[aM]at av;have aw:=fun W=>ze (kY PX PY W);simp only[aN]at aw;have a9:∀(Y W:L),W.1[Y.1.size]?=E (.cells #[I R,I CP,I BK] 3)->Hid (Calls prog 163 #[.slice (E (U Y.1.size 0)) 3 3] W fun e w'=>e=.returned (I (orL [R,CP,BK]))/\w'=W):=fun Y W hW=>
  ziN [R,CP,BK] (by simp) W Y.1.size (fun k v hk=>by
   rw[xR hW]
   match k,hk with
   |0,hk=>simp at hk;subst hk;rfl
   |1,hk=>simp at hk;subst hk;rfl
   |2,hk=>simp at hk;subst hk;rfl)
 have ai:=ze ab;have HR:=ze hR;have tX:=(ab.cell (p:=(U (q+2) 0)) b5).trans t0;clear h hc aS ao hO hx hy aO aP aM hR be b1 b2 b3 ab aN t0;cases Q with
 |false=>
  go_enter func161,ntmps161;have ax:(0:Int)=R:=ud HR;go_wp2_with fail;generalize hX:((w.alloc (.cells (tZz x) 177)).alloc (.cells (tZz y) 177))=X at*;have z:w.1.size<X.1.size:=by omega
  have B:w.1.size+1<X.1.size:=by omega
  have au:q+3<X.1.size:=by omega
  have aW:q<X.1.size:=by omega
  have b4:q+1<X.1.size:=by omega
  have u:Hid (w.1.size<=X.1.size):=by show _<=_;omega
  clear hX bz bb bc bd b5 tX;generalize w.1.size+1=n1 at*;generalize aR:w.1.size=n0 at*;rw[ax];have ba:A X.1.size X X:=G _ _;obtain⟨V,aQ⟩:∃V,X=V:=⟨_,rfl⟩;have i:Hid (A X.1.size X V):=by rw[<-aQ];exact ba
  rw[aQ];have v0:Cz V n0 0 (jZz x):=((ud i).cell (p:=(U n0 0)) z).trans x0;have v1:Cz V n0 1 (I x.se):=((ud i).cell (p:=(U n0 1)) z).trans x1;have v2:Cz V n0 2 (I x.ti):=((ud i).cell (p:=(U n0 2)) z).trans x2;have v3:Cz V n0 3 (I x.rest):=((ud i).cell (p:=(U n0 3)) z).trans x3;have v4:Cz V n1 0 (jZz y):=((ud i).cell (p:=(U n1 0)) B).trans x4;have v5:Cz V n1 1 (I y.se):=((ud i).cell (p:=(U n1 1)) B).trans x5;have v6:Cz V n1 2 (I y.ti):=((ud i).cell (p:=(U n1 2)) B).trans x6;have v7:Cz V n1 3 (I y.rest):=((ud i).cell (p:=(U n1 3)) B).trans x7;have v8:Cz V (q+3) 0 (.func (.func 160) #[] #[(O q),(O (q+1))]):=((ud i).cell (p:=(U (q+3) 0)) au).trans x8;have N:=J z (ud i).size;have P:=J B (ud i).size;have ar:=J au (ud i).size;have aV:=J aW (ud i).size;have aZ:=J b4 (ud i).size;clear aQ ba x0 x1 x2 x3 x4 x5 x6 x7 x8;have ac:=ud ag V (ud i) (Z _);have ad:=ud ag V.drew (ud i).drew (Z _);go_region_held3 (fun w'=>w'.cell? (U n0 0)=E (jZz x)/\w'.cell? (U n0 1)=E (I x.se)/\w'.cell? (U n0 2)=E (I x.ti)/\w'.cell? (U n0 3)=E (I x.rest)/\w'.cell? (U n1 0)=E (jZz y)/\w'.cell? (U n1 1)=E (I y.se)/\w'.cell? (U n1 2)=E (I y.ti)/\w'.cell? (U n1 3)=E (I y.rest)/\w'.cell? (U (q+3) 0)=E (.func (.func 160) #[] #[(O q),(O (q+1))])) (go_keep) (first
   |(go_at_call 160;(first|(with_reducible refine(ud ac).mono ?_)|(with_reducible refine(ud ad).mono ?_));rintro e r ⟨rfl,j⟩;have d:A V.1.size V r:=⟨j.os,j.tape,j.output,j.size,j.block⟩;clear j;have a0:Cz r n0 0 (jZz x):=(d.cell (p:=(U n0 0)) N).trans v0;have a1:Cz r n0 1 (I x.se):=(d.cell (p:=(U n0 1)) N).trans v1;have a2:Cz r n0 2 (I x.ti):=(d.cell (p:=(U n0 2)) N).trans v2;have a3:Cz r n0 3 (I x.rest):=(d.cell (p:=(U n0 3)) N).trans v3;have a4:Cz r n1 0 (jZz y):=(d.cell (p:=(U n1 0)) P).trans v4;have a5:Cz r n1 1 (I y.se):=(d.cell (p:=(U n1 1)) P).trans v5;have a6:Cz r n1 2 (I y.ti):=(d.cell (p:=(U n1 2)) P).trans v6;have a7:Cz r n1 3 (I y.rest):=(d.cell (p:=(U n1 3)) P).trans v7;have a8:Cz r (q+3) 0 (.func (.func 160) #[] #[(O q),(O (q+1))]):=(d.cell (p:=(U (q+3) 0)) ar).trans v8;have s:=J N d.size;have t:=J P d.size;have ap:=J ar d.size;have aT:=J aV d.size;have aX:=J aZ d.size;have ae:=ud ah r ((ud i).trans (d.mono (ud i).size)) (Z _);have af:=ud ah r.drew ((ud i).trans (d.mono (ud i).size)).drew (Z _);have al:=ze ((ud i).trans (d.mono (ud i).size));clear d ac ad)
   |(go_at_call 160;(first|(with_reducible refine(ud ae).mono ?_)|(with_reducible refine(ud af).mono ?_));rintro e C ⟨rfl,l⟩;have f:A r.1.size r C:=⟨l.os,l.tape,l.output,l.size,l.block⟩;clear l;have c0:Cz C n0 0 (jZz x):=(f.cell (p:=(U n0 0)) s).trans a0;have c1:Cz C n0 1 (I x.se):=(f.cell (p:=(U n0 1)) s).trans a1;have c2:Cz C n0 2 (I x.ti):=(f.cell (p:=(U n0 2)) s).trans a2;have c3:Cz C n0 3 (I x.rest):=(f.cell (p:=(U n0 3)) s).trans a3;have c4:Cz C n1 0 (jZz y):=(f.cell (p:=(U n1 0)) t).trans a4;have c5:Cz C n1 1 (I y.se):=(f.cell (p:=(U n1 1)) t).trans a5;have c6:Cz C n1 2 (I y.ti):=(f.cell (p:=(U n1 2)) t).trans a6;have c7:Cz C n1 3 (I y.rest):=(f.cell (p:=(U n1 3)) t).trans a7;have c8:Cz C (q+3) 0 (.func (.func 160) #[] #[(O q),(O (q+1))]):=(f.cell (p:=(U (q+3) 0)) ap).trans a8;have H:=J s f.size;have M:=J t f.size;have aq:=J ap f.size;have aU:=J aT f.size;have aY:=J aX f.size;have am:=ze ((ud al).trans (f.mono (ud al).size));clear f ae af)
   |(go_at_call 162;(with_reducible refine(ud (aw _)).mono ?_);rintro e V9 ⟨rfl,h9⟩;have an:=h9.symm;subst an)
   |(go_at_call 106;(with_reducible refine(ud (av _)).mono ?_);rintro e o ⟨rfl,m⟩;have g:A C.1.size C o:=⟨m.os,m.tape,m.output,m.size,m.block⟩;clear m;have d0:Cz o n0 0 (jZz x):=(g.cell (p:=(U n0 0)) H).trans c0;have d1:Cz o n0 1 (I x.se):=(g.cell (p:=(U n0 1)) H).trans c1;have d2:Cz o n0 2 (I x.ti):=(g.cell (p:=(U n0 2)) H).trans c2;have d3:Cz o n0 3 (I x.rest):=(g.cell (p:=(U n0 3)) H).trans c3;have d4:Cz o n1 0 (jZz y):=(g.cell (p:=(U n1 0)) M).trans c4;have d5:Cz o n1 1 (I y.se):=(g.cell (p:=(U n1 1)) M).trans c5;have d6:Cz o n1 2 (I y.ti):=(g.cell (p:=(U n1 2)) M).trans c6;have d7:Cz o n1 3 (I y.rest):=(g.cell (p:=(U n1 3)) M).trans c7;have d8:Cz o (q+3) 0 (.func (.func 160) #[] #[(O q),(O (q+1))]):=(g.cell (p:=(U (q+3) 0)) aq).trans c8;have bf:=J H g.size;have bg:=J M g.size;have bh:=J aq g.size;have bi:=J aU g.size;have bj:=J aY g.size;have aH:=a9 o (o.alloc (.cells #[I R,I CP,I BK] 3)) (zq _ _);have aI:=a9 o (o.alloc (.cells #[I R,I CP,I BK] 3)).drew (zq _ _);have aJ:=a9 o (o.drew.alloc (.cells #[I R,I CP,I BK] 3)) (zq o.drew _);have aL:=ze ((ud am).trans (g.mono (ud am).size));clear g a9)
   |(go_at_call 163;(first|(with_reducible refine(ud aH).mono ?_)|(with_reducible refine(ud aI).mono ?_)|(with_reducible refine(ud aJ).mono ?_));rintro e V8 ⟨rfl,rfl⟩))
  go_wp2_with fail;go_ret;have h3:=ud aL;exact⟨by rw[ud aK];rfl,by rw[aR];first|exact((ud ai).trans ((h3.mono (ud u)).alloc (D (ud u) h3.size) _)).drew|exact(ud ai).trans ((h3.mono (ud u)).alloc (D (ud u) h3.size) _)|exact(ud ai).trans ((h3.mono (ud u)).drew.alloc (D (ud u) h3.size) _)⟩
 |true=>
  obtain⟨fx,mx,kx,ex⟩:=zby x;obtain⟨fy,my,ky,ey⟩:=zby y;have aF:=fun W=>ze (kx W);have aG:=fun W=>ze (ky W);have ax:vT y.kd x.kd=R:=ud HR;have aE:=fun W=>ze (kY y.kd x.kd W);simp only[ax]at aE;clear kx ky ax;go_enter func161,ntmps161;go_wp2_with fail;generalize hX:((w.alloc (.cells (tZz x) 177)).alloc (.cells (tZz y) 177))=X at*;have z:w.1.size<X.1.size:=by omega
  have B:w.1.size+1<X.1.size:=by omega
  have au:q+3<X.1.size:=by omega
  have aW:q<X.1.size:=by omega
  have b4:q+1<X.1.size:=by omega
  have u:Hid (w.1.size<=X.1.size):=by show _<=_;omega
  clear hX bz bb bc bd b5 tX;generalize w.1.size+1=n1 at*;generalize aR:w.1.size=n0 at*;rename_i Q1 K1 hK1;have b6:Hid (∀(u9 ay az aA aB aC aD:Value) (V:L),A X.1.size X V->K1 {tmps:=#[.agg (tZz x),.agg (tZz y),(O (q+2)),(O (q+3)),(O n0),(O n1),I 0,I R,.bool true,u9,ay,az,aA,aB,aC,aD,undef,undef,undef,undef,undef,undef,undef,undef,undef,undef,undef,undef,undef],defers:=[]} V):=by
   show∀(u9 ay az aA aB aC aD:Value) (V:L),A X.1.size X V->K1 {tmps:=#[.agg (tZz x),.agg (tZz y),(O (q+2)),(O (q+3)),(O n0),(O n1),I 0,I R,.bool true,u9,ay,az,aA,aB,aC,aD,undef,undef,undef,undef,undef,undef,undef,undef,undef,undef,undef,undef,undef],defers:=[]} V;intro u9 ay az aA aB aC aD V b9;apply hK1;have i:=ze b9;have v0:Cz V n0 0 (jZz x):=((ud i).cell (p:=(U n0 0)) z).trans x0;have v1:Cz V n0 1 (I x.se):=((ud i).cell (p:=(U n0 1)) z).trans x1;have v2:Cz V n0 2 (I x.ti):=((ud i).cell (p:=(U n0 2)) z).trans x2;have v3:Cz V n0 3 (I x.rest):=((ud i).cell (p:=(U n0 3)) z).trans x3;have v4:Cz V n1 0 (jZz y):=((ud i).cell (p:=(U n1 0)) B).trans x4;have v5:Cz V n1 1 (I y.se):=((ud i).cell (p:=(U n1 1)) B).trans x5;have v6:Cz V n1 2 (I y.ti):=((ud i).cell (p:=(U n1 2)) B).trans x6;have v7:Cz V n1 3 (I y.rest):=((ud i).cell (p:=(U n1 3)) B).trans x7;have v8:Cz V (q+3) 0 (.func (.func 160) #[] #[(O q),(O (q+1))]):=((ud i).cell (p:=(U (q+3) 0)) au).trans x8;have N:=J z (ud i).size;have P:=J B (ud i).size;have ar:=J au (ud i).size;have aV:=J aW (ud i).size;have aZ:=J b4 (ud i).size;clear b9 hK1 aF aG aE mx my ex ey x0 x1 x2 x3 x4 x5 x6 x7 x8;go_wp2_with fail;have ac:=ud ag V (ud i) (Z _);have ad:=ud ag V.drew (ud i).drew (Z _);go_region_held3 (fun w'=>w'.cell? (U n0 0)=E (jZz x)/\w'.cell? (U n0 1)=E (I x.se)/\w'.cell? (U n0 2)=E (I x.ti)/\w'.cell? (U n0 3)=E (I x.rest)/\w'.cell? (U n1 0)=E (jZz y)/\w'.cell? (U n1 1)=E (I y.se)/\w'.cell? (U n1 2)=E (I y.ti)/\w'.cell? (U n1 3)=E (I y.rest)/\w'.cell? (U (q+3) 0)=E (.func (.func 160) #[] #[(O q),(O (q+1))])) (go_keep) (first
    |(go_at_call 160;(first|(with_reducible refine(ud ac).mono ?_)|(with_reducible refine(ud ad).mono ?_));rintro e r ⟨rfl,j⟩;have d:A V.1.size V r:=⟨j.os,j.tape,j.output,j.size,j.block⟩;clear j;have a0:Cz r n0 0 (jZz x):=(d.cell (p:=(U n0 0)) N).trans v0;have a1:Cz r n0 1 (I x.se):=(d.cell (p:=(U n0 1)) N).trans v1;have a2:Cz r n0 2 (I x.ti):=(d.cell (p:=(U n0 2)) N).trans v2;have a3:Cz r n0 3 (I x.rest):=(d.cell (p:=(U n0 3)) N).trans v3;have a4:Cz r n1 0 (jZz y):=(d.cell (p:=(U n1 0)) P).trans v4;have a5:Cz r n1 1 (I y.se):=(d.cell (p:=(U n1 1)) P).trans v5;have a6:Cz r n1 2 (I y.ti):=(d.cell (p:=(U n1 2)) P).trans v6;have a7:Cz r n1 3 (I y.rest):=(d.cell (p:=(U n1 3)) P).trans v7;have a8:Cz r (q+3) 0 (.func (.func 160) #[] #[(O q),(O (q+1))]):=(d.cell (p:=(U (q+3) 0)) ar).trans v8;have s:=J N d.size;have t:=J P d.size;have ap:=J ar d.size;have aT:=J aV d.size;have aX:=J aZ d.size;have ae:=ud ah r ((ud i).trans (d.mono (ud i).size)) (Z _);have af:=ud ah r.drew ((ud i).trans (d.mono (ud i).size)).drew (Z _);have al:=ze ((ud i).trans (d.mono (ud i).size));clear d ac ad)
    |(go_at_call 160;(first|(with_reducible refine(ud ae).mono ?_)|(with_reducible refine(ud af).mono ?_));rintro e C ⟨rfl,l⟩;have f:A r.1.size r C:=⟨l.os,l.tape,l.output,l.size,l.block⟩;clear l;have c0:Cz C n0 0 (jZz x):=(f.cell (p:=(U n0 0)) s).trans a0;have c1:Cz C n0 1 (I x.se):=(f.cell (p:=(U n0 1)) s).trans a1;have c2:Cz C n0 2 (I x.ti):=(f.cell (p:=(U n0 2)) s).trans a2;have c3:Cz C n0 3 (I x.rest):=(f.cell (p:=(U n0 3)) s).trans a3;have c4:Cz C n1 0 (jZz y):=(f.cell (p:=(U n1 0)) t).trans a4;have c5:Cz C n1 1 (I y.se):=(f.cell (p:=(U n1 1)) t).trans a5;have c6:Cz C n1 2 (I y.ti):=(f.cell (p:=(U n1 2)) t).trans a6;have c7:Cz C n1 3 (I y.rest):=(f.cell (p:=(U n1 3)) t).trans a7;have c8:Cz C (q+3) 0 (.func (.func 160) #[] #[(O q),(O (q+1))]):=(f.cell (p:=(U (q+3) 0)) ap).trans a8;have H:=J s f.size;have M:=J t f.size;have aq:=J ap f.size;have aU:=J aT f.size;have aY:=J aX f.size;have am:=ze ((ud al).trans (f.mono (ud al).size));clear f ae af)
    |(go_at_call 162;(with_reducible refine(ud (aw _)).mono ?_);rintro e V9 ⟨rfl,h9⟩;have an:=h9.symm;subst an)
    |(go_at_call 106;(with_reducible refine(ud (av _)).mono ?_);rintro e o ⟨rfl,m⟩;have g:A C.1.size C o:=⟨m.os,m.tape,m.output,m.size,m.block⟩;clear m;have d0:Cz o n0 0 (jZz x):=(g.cell (p:=(U n0 0)) H).trans c0;have d1:Cz o n0 1 (I x.se):=(g.cell (p:=(U n0 1)) H).trans c1;have d2:Cz o n0 2 (I x.ti):=(g.cell (p:=(U n0 2)) H).trans c2;have d3:Cz o n0 3 (I x.rest):=(g.cell (p:=(U n0 3)) H).trans c3;have d4:Cz o n1 0 (jZz y):=(g.cell (p:=(U n1 0)) M).trans c4;have d5:Cz o n1 1 (I y.se):=(g.cell (p:=(U n1 1)) M).trans c5;have d6:Cz o n1 2 (I y.ti):=(g.cell (p:=(U n1 2)) M).trans c6;have d7:Cz o n1 3 (I y.rest):=(g.cell (p:=(U n1 3)) M).trans c7;have d8:Cz o (q+3) 0 (.func (.func 160) #[] #[(O q),(O (q+1))]):=(g.cell (p:=(U (q+3) 0)) aq).trans c8;have bf:=J H g.size;have bg:=J M g.size;have bh:=J aq g.size;have bi:=J aU g.size;have bj:=J aY g.size;have aH:=a9 o (o.alloc (.cells #[I R,I CP,I BK] 3)) (zq _ _);have aI:=a9 o (o.alloc (.cells #[I R,I CP,I BK] 3)).drew (zq _ _);have aJ:=a9 o (o.drew.alloc (.cells #[I R,I CP,I BK] 3)) (zq o.drew _);have aL:=ze ((ud am).trans (g.mono (ud am).size));clear g a9)
    |(go_at_call 163;(first|(with_reducible refine(ud aH).mono ?_)|(with_reducible refine(ud aI).mono ?_)|(with_reducible refine(ud aJ).mono ?_));rintro e V8 ⟨rfl,rfl⟩))
   go_wp2_with fail;go_ret;have h3:=ud aL;exact⟨by rw[ud aK];rfl,by rw[aR];first|exact((ud ai).trans ((h3.mono (ud u)).alloc (D (ud u) h3.size) _)).drew|exact(ud ai).trans ((h3.mono (ud u)).alloc (D (ud u) h3.size) _)|exact(ud ai).trans ((h3.mono (ud u)).drew.alloc (D (ud u) h3.size) _)⟩
  clear hK1 a9 av aw ag ah aK;go_region_held3 (fun w'=>w'.cell? (U n0 0)=E (jZz x)/\w'.cell? (U n1 0)=E (jZz y)) (go_keep) (first
   |((with_reducible refine(ud (aG _)).mono ?_);rintro e Y1 ⟨rfl,S⟩;have aj:A X.1.size X Y1:=⟨S.os,S.tape,S.output,S.size,S.block⟩;clear S;have a0:=(aj.cell (p:=(U n0 0)) z).trans x0;have a4:=(aj.cell (p:=(U n1 0)) B).trans x4;have s:=J z aj.size;have t:=J B aj.size;have b7:=ze aj;clear aj aG)
   |((with_reducible refine(ud (aF _)).mono ?_);rintro e Y2 ⟨rfl,T⟩;have ak:A Y1.1.size Y1 Y2:=⟨T.os,T.tape,T.output,T.size,T.block⟩;clear T;have c0:=(ak.cell (p:=(U n0 0)) s).trans a0;have c4:=(ak.cell (p:=(U n1 0)) t).trans a4;have H:=J s ak.size;have M:=J t ak.size;have b8:=ze ((ud b7).trans (ak.mono (ud b7).size));clear ak aF)
   |(go_at_call 162;(with_reducible refine(ud (aE _)).mono ?_);rintro e V9 ⟨rfl,h9⟩;have an:=h9.symm;subst an))
  all_goals show K1 _ _
  all_goals first|exact ud b6 _ _ _ _ _ _ _ _ (ud b8)|exact ud b6 _ _ _ _ _ _ _ _ (ud b8).drew
theorem qQ(x y:Tsk):qE x y<0↔(x.kd<y.kd\/x.kd=y.kd/\(x.s.t<y.s.t\/x.s.t=y.s.t/\(x.s.sr<y.s.sr\/x.s.sr=y.s.sr/\x.s.wn<y.s.wn))):=by
 unfold qE;simp only[orL,vT];repeat' split
 all_goals omega
theorem zhA{x y:Tsk}(a:¬qE x y<0)(b:¬qE y x<0):x.kd=y.kd/\x.s.t=y.s.t/\x.s.sr=y.s.sr/\x.s.wn=y.s.wn:=by
 rw[qQ]at a b;omega
theorem zhB:Go.Sort.SWO (fun x y:Tsk=>decide (qE x y<0)) where
 irrefl x:=by simp only[decide_eq_false_iff_not,qQ];omega
 trans x y z h1 h2:=by simp only[decide_eq_true_eq,qQ]at*;omega
 ntrans x y z h1 h2:=by simp only[decide_eq_false_iff_not,qQ]at*;omega
theorem Jl{l e:List Tsk}(i:l.Perm e)(k:l.Pairwise (fun a b=>¬qE b a<0))(m:e.Pairwise (fun a b=>¬qE b a<0))(p:∀a∈l,∀b∈l,a.key=b.key->a=b):l=e:=
 i.eq_of_pairwise (fun a b n o c d=>p a n b (i.mem_iff.2 o) (by
  obtain⟨j,f,g,h⟩:=zhA d c;unfold Tsk.key;rw[j,show a.s=b.s from by
   obtain⟨_,⟨_,_,_⟩,_,_,_⟩:=a;obtain⟨_,⟨_,_,_⟩,_,_,_⟩:=b;simp only at f g h ⊢;rw[f,g,h]])) k m
end Go.Proofs.YtndhpgciopcncaaGreatDoor
namespace Go.Proofs.YtndhpgciopcncaaGreatDoor
open Go.RowKit Go.Maps Go.Shelf Go.Sort
theorem zoX{α:Type}[Inhabited α](enc:α->List Value)(k:Nat)(w:L)(a b n:Nat)(d:Array α)(os:Array Obj):zi (fun j=>j=a) w (sortWorldK enc k w a b n d os) where
 os:=rfl
 tape:=rfl
 output:=rfl
 size:=size_sortWorldK_c enc k w a b n d os
 block j hj hn:=by
  unfold sortWorldK putRowK;rw[heap_grow_old _ _ (by rw[size_putRow];exact hj)];unfold putRow mapBlock;show((Sort.ahead w n).heap.modify a _)[j]?=_;rw[Array.getElem?_modify,if_neg (fun e=>hn e.symm)];rfl
theorem zkT:∀args w,(callFunc 106 args).run prog w=.ok (.enter 106 args) w:=enters_of func106 (by kernel_rfl) rfl
theorem zjY(a b size:Nat)(w:L):CmpLays prog 106 #[] Vw 4 qE a b size w:=
 fun m os dk f x y=>(Dr.byKey_any x y _).mono fun e w' ⟨d,c⟩=>⟨d,c.lays⟩
theorem zma(c cap:Nat)(xs:List Tsk)(w:L)(q:HoldsK Vw 4 w c 0 xs.toArray)(g:c<w.1.size)(p:xs.length<4611686018427387904):
  Calls prog 165 #[.slice (E (U c 0)) xs.length cap,.func (.func 106) #[] #[]] w fun e w'=>e=.returned (.tuple #[])/\∃ys:List Tsk,ys.Perm xs/\ys.Pairwise (fun a b=>¬qE b a<0)/\HoldsK Vw 4 w' c 0 ys.toArray/\zi (fun j=>j=c) w w':=by
 have k:=AnyQ.slices_SortFunc Tryz.sortTsk 4 Tryz.isAgg177 Tryz.sizeOf177 Vw zaz zfc qE zhB 106 #[] c 0 cap xs.toArray w zkT (zjY c 0 _ w) q g (by simpa using p);have d:Calls prog 165 #[.slice (E (U c 0)) xs.toArray.size cap,.func (.func 106) #[] #[]] w _:=k;rw[List.size_toArray]at d;refine d.mono ?_;rintro e w' ⟨rfl,f,n,os,⟨t,_,s⟩,y,rfl⟩;have l:f.size=xs.length:=by rw[t,List.size_toArray]
 refine⟨rfl,f.toList,?_,?_,?_,zoX _ _ _ _ _ _ _ _⟩
 ·have u:f.extract 0 xs.length=f:=by rw[<-l];exact Array.extract_size
  have v:xs.toArray.extract 0 xs.length=xs.toArray:=by simp
  rw[u,v]at s;exact s
 ·rw[List.pairwise_iff_getElem];intro i j x r o;have h:=y i j (Nat.zero_le _) o (by rw[<-l];simpa using r);have m:i<f.size:=by simpa using x
  have hj':j<f.size:=by simpa using r
  rw[getElem!_pos f i m,getElem!_pos f j hj']at h;unfold ltOf at h;simpa using h
 ·have:=holdsK_sortWorldK_c Vw 4 w c 0 xs.toArray f n os q g t;simpa using this
theorem zjy(a:Option Addr)(cap:Nat)(w:L):
  Calls prog 165 #[.slice a 0 cap,.func (.func 106) #[] #[]] w fun e w'=>e=.returned (.tuple #[])/\w'=w:=
 AnyF.slices_SortFunc_none (P:=prog) Tryz.sortTsk a cap (.func (.func 106) #[] #[]) w
end Go.Proofs.YtndhpgciopcncaaGreatDoor
namespace Go.Proofs.YtndhpgciopcncaaGreatDoor
open Go.ChangeMaps (setBlock)
open Go.RowKit Go.Maps Go.Shelf
variable {c:Cf} {ep num:Int} {TL:List (Jk×Tsk)} {QL:List (Tok×Lse)} {ts:List Tsk} {b qb tb:Nat} {m:RM} {x:Tsk} {tv:Value} {w:L}
theorem zjS(h:zC w b c tv ep num tb qb TL QL)(x:Tsk)(hu:∀p∈QL,p.2.job≠x.key):
  Calls prog 104 #[(O b),.agg (tZz x)] w (Rz w (.agg #[I x.kd,I x.s.t,I x.s.sr,I x.s.wn,I x.se,I x.ti,I x.rest,I 0,I 0,I (-1),I 0])):=by
 have aI:=h.lt;have au:=h.cell10;obtain⟨y0,y1,aa,yz⟩:=box2 w (.cells (tZz x) 177) zkj;have a9:=ze (keyOf_any x ((w.alloc (.cells (tZz x) 177)).alloc zkj));have H:=ze h;have Y0:=ze y0;have Y1:=ze y1;have a1:=ze aa;have YZ:=ze yz;clear h y0 y1 aa yz;go_enter func104,ntmps104;go_wp2_with fail;refine(ud a9).mono ?_;rintro e a ⟨rfl,u⟩;have aP:=u.size;have yz:=ud YZ;have t0:=(u.block _ (by omega)).trans (ud Y0);have r0:=(u.block _ (by omega)).trans (ud Y1);have a4:=(ud a1).trans (u.mono (ud a1).size);have R:=(ud H).later a4;have av:=R.cell10;have aH:=R.lt;have aO:=zd t0;have aB:=zd r0;obtain⟨-,s1,s2,s3,-⟩:=zc t0;have R0:=ze r0;have ak:=ze a4;have am:=ze R;clear u yz t0 r0 a4 R au Y0 Y1 a1 YZ a9
 --LOOP
 obtain⟨es,clock,U,V⟩:=(ud am).leases;obtain⟨v0,v1,d,vz⟩:=box2 a (.cells #[I x.kd,I x.s.t,I x.s.sr,I x.s.wn] 162) (.cells #[I x.kd,I x.s.t,I x.s.sr,I x.s.wn,I x.se,I x.ti,I x.rest,I 0,I 0,I (-1),I 0] 51);have g:=(d.block _ (zd U)).trans U;have a0:=run_range_map (P:=prog) ((a.alloc (.cells #[I x.kd,I x.s.t,I x.s.sr,I x.s.wn] 162)).alloc (.cells #[I x.kd,I x.s.t,I x.s.sr,I x.s.wn,I x.se,I x.ti,I x.rest,I 0,I 0,I (-1),I 0] 51)) 168 _ _ qb es clock underlying168 g;have a8:=ze (And.intro v0 (And.intro v1 (And.intro d (And.intro vz (And.intro g V)))));have aM:=zd U;clear U V v0 v1 d vz g;go_wp2_with fail;obtain⟨v0,v1,d,vz,g,V⟩:=ud a8;generalize((a.alloc (.cells #[I x.kd,I x.s.t,I x.s.sr,I x.s.wn] 162)).alloc (.cells #[I x.kd,I x.s.t,I x.s.sr,I x.s.wn,I x.se,I x.ti,I x.rest,I 0,I 0,I (-1),I 0] 51))=Q at*;have aC:=(d.block _ aB).trans (ud R0);have aE:=d.size;clear a0 av s1 s2 s3 a8;have HM:=ze V;have aG:=ze g;have ar:=ze v0;have al:=ze d;have a2:=ze vz;have ap:=ze aC;go_loopw [7,8] (fun _ _ wr=>∃(seen:Array Nat) (c0:Nat),wr.1[(a.1.size+1+1)]?=E (.mapIter (E qb) clock seen c0)/\clock<=c0/\wr.1[qb]?=E (.map es clock)/\wr.1[a.1.size+1]?=E (QX x (⟨0,0⟩,-1,0))/\zi (fun k=>k=a.1.size+1) Q wr)
  (fun _ _ wr=>Z9 es (a.1.size+1+1) wr)
 case atStart=>
  have a3:A Q.1.size Q (Q.alloc (.mapIter (E qb) clock #[] clock)):=(G _ _).alloc (Z _) _;refine⟨#[],clock,by have:=zq Q (.mapIter (E qb) clock #[] clock);rw[show Q.1.size=(a.1.size+1+1)from ud a2]at this;exact this,Z _,(a3.block _ (zd g)).trans g,(a3.block _ (zd v1)).trans v1,zi.of_below a3⟩
 case round=>
  obtain⟨seen,c0,hr,a5,Y,T,hK⟩:=hrel;have aN:=zd hr;have aj:Q.1.size=(a.1.size+1+1):=ud a2;rcases run_next_at (P:=prog) wr 0 (a.1.size+1+1) qb clock c0 seen es clock hr Y (ud HM).born a5 with⟨hz,f⟩|⟨e,a6,w1,N,f⟩
  ·have K:=hK.heap (k:=w.1.size+1) (ud ap) (by omega);have F:wr.1[a.1.size+1]?=E (.cells #[I x.kd,I x.s.t,I x.s.sr,I x.s.wn,I x.se,I x.ti,I x.rest,I 0,I 0,I (-1),I 0] 51 (0,0)):=T;obtain⟨o0,o1,o2,o3,o4,o5,o6,o7,o8,o9,aU,-⟩:=zc F;obtain⟨z0,z1,z2,z3,z4,z5,z6,z7,z8,z9,aW,-⟩:=zc K;have zf:=fun j=>zw K j;have aL:=zd K;have aK:=zd F;have aF:¬a.1.size+1=w.1.size+1:=(by omega);have ao:=ze hK;have aq:=ze K;clear aj;clear hz T F hK K hr Y a5;go_wp2_with fail;have hf:=zdG (ud aq) (I x.kd) (I x.s.t) (I x.s.sr) (I x.s.wn) (I x.se) (I x.ti) (I x.rest) (I 0) (I 0) (I (-1)) (I 0);have S:=ud ao;have ax:A w.1.size Q wr:=⟨S.os,S.tape,S.output,S.size,fun j hj=>S.block j (by have:=ud a2;omega) (by omega)⟩;have hbb:=(ud ak).trans (((ud al).mono (by omega)).trans ax);refine bodyPost_ret (v:=.agg #[I x.kd,I x.s.t,I x.s.sr,I x.s.wn,I x.se,I x.ti,I x.rest,I 0,I 0,I (-1),I 0]) (results_cell_row results104 _ _ (w.1.size+1) _ _ _ _ rfl hf underlying51 rfl (by kernel_rfl)) rfl ?_;exact⟨rfl,hbb.trans (zhx (Nat.le_succ _) (I x.kd) (I x.s.t) (I x.s.sr) (I x.s.wn) (I x.se) (I x.ti) (I x.rest) (I 0) (I 0) (I (-1)) (I 0))⟩
  ·have an:=ze a6;obtain⟨B,az⟩:=xF.1 a6;have ag:w1.1[(a.1.size+1+1)]?=E (.mapIter (E qb) clock seen c0):=(by rcases N with rfl|rfl<;>exact hr);have af:w1.1[qb]?=E (.map es clock):=(by rcases N with rfl|rfl<;>exact Y);have ae:w1.1[a.1.size+1]?=E (QX x (⟨0,0⟩,-1,0)):=(by rcases N with rfl|rfl<;>exact T);have ay:qb≠(a.1.size+1+1):=(by omega);obtain⟨X,hX⟩:∃X,setBlock w1 (a.1.size+1+1) (.mapIter (E qb) clock (seen.push e.born) clock)=X:=⟨_,rfl⟩;have o:X.1[(a.1.size+1+1)]?=E (.mapIter (E qb) clock (seen.push e.born) clock):=(by rw[<-hX];exact xO (zd ag) _);have m:X.1[qb]?=E (.map es clock):=(by rw[<-hX,xq ay];exact af);have n:X.1[a.1.size+1]?=E (QX x (⟨0,0⟩,-1,0)):=(by rw[<-hX,xq (by omega)];exact ae);have ad:zi (fun k=>k=(a.1.size+1+1)) wr X:=by
    rw[<-hX];rcases N with rfl|rfl
    ·exact xZ _
    ·exact(zi.refl (fun k=>k=(a.1.size+1+1)) wr).drew.trans (xZ _) (fun _ _ h=>h)
   have r:zi (fun k=>k=a.1.size+1) Q X:=hK.trans ad (fun i hi e=>by omega);rw[hX]at f;have ab:=run_entry_at (P:=prog) X (a.1.size+1+1) qb clock seen es clock e o m B (ud HM).once;obtain⟨z,S,hv⟩:=Xa yx (ud HM) B;obtain⟨⟨t',y⟩,ai⟩:∃y,kC xJ QL e=y:=⟨_,rfl⟩;rw[ai]at z S hv;have l:e.key=yB t':=S;have M:e.val=vC y:=hv;have aD:=ze l;unfold yB at l;unfold vC at M;rw[l,M]at f ab;have aw:=zd o;have C:=r.heap (ud ar) (by omega);obtain⟨aQ,aR,aS,aT,-⟩:=zc C;have aJ:=zd C;have aA:=zd n;have ac:=fun W=>zhR ⟨y.kd,y.s⟩ x.key W;have a7:X.1[a.1.size+1]?=E (.cells #[I x.kd,I x.s.t,I x.s.sr,I x.s.wn,I x.se,I x.ti,I x.rest,I 0,I 0,I (-1),I 0] 51 (0,0)):=n;obtain⟨-,-,-,-,-,-,-,q7,q8,q9,aV,-⟩:=zc a7;have qf:=fun j=>zw a7 j;have HP:=ze (And.intro o (And.intro m (And.intro n (And.intro r (And.intro B (And.intro z hr))))));have hV:A X.1.size X ((X.alloc (.cells #[I t'.ep,I t'.num] 49)).alloc (.cells (lZz y) 164)):=((G _ _).alloc (Z _) _).alloc ((G _ _).alloc (Z _) _).size _;have HV:=ze hV;have q:decide ((⟨y.kd,y.s⟩:Jk)=x.key)=true\/decide ((⟨y.kd,y.s⟩:Jk)=x.key)=false:=(by cases decide ((⟨y.kd,y.s⟩:Jk)=x.key)<;>simp);clear aj;clear ag af ae hX N S hv ai a6 B az l M Y o m n r ad hK T hr a5 a7 C hV;rcases q with q|q
   ·exact absurd (of_decide_eq_true q) (hu (t',y) z)
   ·simp only[q]at ac;dsimp only[Tsk.key]at ac;clear q z;go_wp2_with fail;obtain⟨o,m,n,r,B,z,hr⟩:=ud HP;have hV:=ud HV;have ah:=(hV.block _ aw).trans o;refine⟨⟨_,_,ah,Z _,(hV.block _ (zd m)).trans m,(hV.block _ aA).trans n,ZR r hV⟩,?_⟩
    ·rw[xv ah,xv hr];exact qR (ud an)
theorem Xq{α:Type}(a:α->α->Int)(j:∀x y z,¬a x y<0->¬a y z<0->¬a x z<0)(m:∀x,¬a x x<0)(c:∀x y,a x y<0->¬a y x<0):∀(l:List α) (f g:α),l.foldl (Yr a) (E f)=E g->¬a f g<0/\∀x∈l,¬a x g<0
 |[],f,g,h=>by
  have:f=g:=by simpa using h
  subst this;exact⟨m _,fun x d=>by cases d⟩
 |x::l,f,g,h=>by
  rw[List.foldl_cons]at h;by_cases d:a x f<0
  ·have e:Yr a (E f) x=E x:=(by simp[Yr,d]);rw[e]at h;obtain⟨i,k⟩:=Xq a j m c l x g h;refine⟨j _ _ _ (c _ _ d) i,fun y b=>?_⟩;rcases List.mem_cons.1 b with rfl|b
   ·exact i
   ·exact k y b
  ·have e:Yr a (E f) x=E f:=(by simp[Yr,d]);rw[e]at h;obtain⟨i,k⟩:=Xq a j m c l f g h;refine⟨i,fun y b=>?_⟩;rcases List.mem_cons.1 b with rfl|b
   ·exact j _ _ _ d i
   ·exact k y b
theorem KD(c:Cf)(now:Int)(a:Bool)(x y:Tsk):Vh c now a x y<0↔((a=true/\y.kd<x.kd)\/(¬(a=true/\¬x.kd=y.kd)/\(yM c now x<yM c now y\/yM c now x=yM c now y/\qE x y<0))):=by
 unfold Vh zoK;generalize yM c now x=b;generalize yM c now y=d;cases a
 ·simp only[orL,vT];repeat' split
  all_goals first|(simp;omega)|(simp;done)|simp_all
 ·simp only[orL,vT];repeat' split
  all_goals first|(simp;omega)|(simp;done)|simp_all
theorem ziQ(c:Cf)(now:Int)(a:Bool)(x y z:Tsk)(b:¬Vh c now a x y<0)(d:¬Vh c now a y z<0):¬Vh c now a x z<0:=by
 rw[KD,qQ]at*;generalize yM c now x=e at*;generalize yM c now y=f at*;generalize yM c now z=g at*;cases a<;>simp only[Bool.false_eq_true,true_and,false_and,false_or,not_false_eq_true]at* <;>omega
theorem zdt(c:Cf)(now:Int)(a:Bool)(x:Tsk):¬Vh c now a x x<0:=by
 rw[KD,qQ];omega
theorem ziP(c:Cf)(now:Int)(a:Bool)(x y:Tsk)(h:Vh c now a x y<0):¬Vh c now a y x<0:=by
 rw[KD,qQ]at*;cases a<;>simp only[Bool.false_eq_true,true_and,false_and,false_or,not_false_eq_true]at* <;>omega
theorem zoC(c:Cf)(now:Int)(a:Bool)(x y:Tsk)(b:¬Vh c now a x y<0)(d:¬Vh c now a y x<0):x.kd=y.kd/\x.s=y.s:=by
 rw[KD,qQ]at*;have:x.kd=y.kd/\x.s.t=y.s.t/\x.s.sr=y.s.sr/\x.s.wn=y.s.wn:=by
  cases a<;>simp only[Bool.false_eq_true,true_and,false_and,false_or,not_false_eq_true]at* <;>omega
 refine⟨this.1,?_⟩;obtain⟨_,⟨_,_,_⟩,_,_,_⟩:=x;obtain⟨_,⟨_,_,_⟩,_,_,_⟩:=y;simp only at this ⊢;rw[this.2.1,this.2.2.1,this.2.2.2]
structure TkT(k:Tk)(x:Tsk):Prop where
 kind:k.kind=x.kd
 s:k.s=x.s
 se:k.se=x.se
theorem zbV{k:Tk}(h:TkT k x)(a:x.se<=m.now):m.pressR k=yM m.c m.now x:=by
 unfold RM.pressR RM.due yM Cf.end;rw[h.kind,h.s,h.se,Int.tdiv_eq_ediv_of_nonneg (by omega)];unfold Tsk.kd;cases x.rl<;>simp
theorem zhk{a b:Tk}{y:Tsk}(e:TkT a x)(f:TkT b y)(g:x.se<=m.now)(h:y.se<=m.now)(d:Bool):m.aheadB d a b=decide (Vh m.c m.now d x y<0):=by
 have k:Qb a b=decide (qE x y<0):=by
  unfold Qb;rw[e.kind,f.kind,e.s,f.s];rw[Bool.eq_iff_iff,decide_eq_true_eq,qQ];repeat' split
  all_goals(simp only[decide_eq_true_eq];omega)
 have i:x.kd=1\/x.kd=2:=by unfold Tsk.kd;split<;>simp
 have j:y.kd=1\/y.kd=2:=by unfold Tsk.kd;split<;>simp
 unfold RM.aheadB;rw[k,zbV e g,zbV f h,e.kind,f.kind,Bool.eq_iff_iff,decide_eq_true_eq,KD];generalize yM m.c m.now x=l;generalize yM m.c m.now y=n;generalize qE x y=bk;cases d
 ·simp only[Bool.false_eq_true,false_and,if_false,false_or,not_false_eq_true,true_and];split<;>simp only[decide_eq_true_eq]<;>omega
 ·simp only[true_and];split
  ·simp only[decide_eq_true_eq];omega
  ·split<;>simp only[decide_eq_true_eq]<;>omega
theorem zpj(gf:Nat)(lb:Array Value)(c:Nat)(a b:Array Value)(w:L):
  Calls prog 96 #[.func (.func gf) #[] lb,.func (.func c) a b] w fun e w'=>e=.returned (.func (.func 157) #[] #[(O w.1.size),(O (w.1.size+1))])/\w'=(w.alloc (.cells #[.func (.func gf) #[] lb] 174)).alloc (.cells #[.func (.func c) a b] 179):=by
 go_enter func96,ntmps96;go_wp2_with fail;go_ret;exact⟨rfl,rfl⟩
theorem zpg:∀args w,(callFunc 157 args).run prog w=.ok (.enter 157 args) w:=enters_of func157 (by kernel_rfl) rfl
theorem zC.setNum(h:zC w b c tv ep num tb qb TL QL)(n:Int):zC (w.setCell (U b 8) (I n)) b c tv ep n tb qb TL QL:=by
 have a:zi (fun k=>k=b) w (w.setCell (U b 8) (I n)):=zg (zi.refl _ _) rfl;exact⟨xD (i:=8) h.head (I n),h.td.kept a h.tb_ne,h.leases.kept a h.qb_ne,h.apart⟩
theorem zjC{X:L}(h:xi xJ X qb QL)(d:QL.length<maxLen){t:Tok}(e:t.wf)(g:Lse):
  ∃o,(Instr.mapUpdate 168 (.map (E qb)) (.agg #[I t.ep,I t.num]) (.agg (lZz g))).run prog X=.ok () (setBlock X qb o)/\xi xJ (setBlock X qb o) qb (qj QL t g)/\zi (fun k=>k=qb) X (setBlock X qb o):=by
 obtain⟨o,a,b,c,_⟩:=jK yx h d e g;exact⟨o,a,b,c⟩
theorem zC.putLeases{w':L}{QL':List (Tok×Lse)}(h:zC w b c tv ep num tb qb TL QL)(d:xi xJ w' qb QL')(a:zi (fun k=>k=qb) w w'):zC w' b c tv ep num tb qb TL QL':=⟨a.heap h.head (fun e=>h.qb_ne e.symm),h.td.kept a h.apart,d,h.apart⟩
theorem zbv{g:Nat}(b0 b c d e f h i j l a:Value):zi (fun k=>k=g) w (((((((((((w.setCell (U g 0) b0).setCell (U g 1) b).setCell (U g 2) c).setCell (U g 3) d).setCell (U g 4) e).setCell (U g 5) f).setCell (U g 6) h).setCell (U g 7) i).setCell (U g 8) j).setCell (U g 9) l).setCell (U g 10) a):=(zg (zg (zg (zg (zg (zg (zg (zg (zg (zg (zg (zi.refl (fun k=>k=g) w) rfl) rfl) rfl) rfl) rfl) rfl) rfl) rfl) rfl) rfl) rfl)
abbrev zkr(c:Cf)(now:Int):={x:Tsk//YS c now x}
noncomputable def zpt (c:Cf) (now:Int) (h:0<=now) (x:Tsk):zkr c now:=by
 classical exact if hx:YS c now x then⟨x,hx⟩else⟨⟨true,⟨-1,0,0⟩,0,0,0⟩,⟨by simp,by show(-1:Int)<c.n;omega,by simp,by show(0:Int)<=0/\(0:Int)<=now;omega⟩⟩
theorem Q5{now:Int}(h:0<=now)(a:YS c now x):(zpt c now h x).1=x:=by unfold zpt;rw[dif_pos a]
def jD(QL:List (Tok×Lse))(x:Tsk):Tok×Int×Int:=match QL.find? (fun p=>decide (p.2.job=x.key))with|some p=>(p.1,p.2.slot,p.2.til)|none=>(⟨0,0⟩,-1,0)
def X7(QL:List (Tok×Lse))(x:Tsk):List Value:=[I x.kd,I x.s.t,I x.s.sr,I x.s.wn,I x.se,I x.ti,I x.rest,I (jD QL x).1.ep,I (jD QL x).1.num,I (jD QL x).2.1,I (jD QL x).2.2]
theorem zjQ(QL:List (Tok×Lse))(x:Tsk):(X7 QL x).length=11:=rfl
theorem zjR(QL:List (Tok×Lse))(x:Tsk):∀v∈X7 QL x,v.oneCell'=true:=fun v hv=>by
 simp only[X7,List.mem_cons,List.not_mem_nil,or_false]at hv;rcases hv with rfl|rfl|rfl|rfl|rfl|rfl|rfl|rfl|rfl|rfl|rfl<;>rfl
theorem yL{α β:Type}{f:α->β}:∀{l:List α},(l.map f).Nodup->∀x∈l,∀y∈l,f x=f y->x=y
 |[],_,x,d,_,_,_=>by cases d
 |a::l,h,x,d,y,g,e=>by
  rw[List.map_cons,List.nodup_cons]at h;rcases List.mem_cons.1 d with rfl|c
  ·rcases List.mem_cons.1 g with rfl|b
   ·rfl
   ·exact absurd (List.mem_map.2 ⟨y,b,e.symm⟩) h.1
  ·rcases List.mem_cons.1 g with rfl|b
   ·exact absurd (List.mem_map.2 ⟨x,c,e⟩) h.1
   ·exact yL h.2 x c y b e
theorem zmt(h:zC w b c tv ep num tb qb TL QL)(k:(QL.map (fun q=>q.2.job)).Nodup)(x:Tsk):
  Calls prog 104 #[(O b),.agg (tZz x)] w (Rz w (.agg (X7 QL x).toArray)):=by
 unfold X7 jD;cases d:QL.find? (fun p=>decide (p.2.job=x.key))with
 |none=>
  refine(zjS h x (fun p j e=>?_)).mono fun e w' a=>a
  have:=List.find?_eq_none.1 d p j
  simp[e]at this
 |some p=>
  have i:=List.mem_of_find?_eq_some d
  have g:p.2.job=x.key:=by have:=List.find?_some d;simpa using this
  exact(zfa h x p.1 p.2 i g (fun q f e=>yL k q f p i (e.trans g.symm))).mono fun e w' a=>a
theorem zjP(c:∀p∈TL,p.1=p.2.key)(hn:(zk TL).Nodup):∀a∈TL.map (fun p=>p.2),∀b∈TL.map (fun p=>p.2),a.key=b.key->a=b:=fun a g b h e=>by
 obtain⟨p,d,rfl⟩:=List.mem_map.1 g;obtain⟨q,f,rfl⟩:=List.mem_map.1 h;rw[yL hn p d q f (by rw[c p d,c q f,e])]
structure jw(TL:List (Jk×Tsk))(ts:List Tsk):Prop where
 perm:ts.Perm (TL.map (fun p=>p.2))
 sorted:ts.Pairwise (fun a b=>¬qE b a<0)
theorem jw.one{c:List Tsk}(h:jw TL ts)(d:jw TL c)(i:∀p∈TL,p.1=p.2.key)(hn:(zk TL).Nodup):ts=c:=
 Jl (h.perm.trans d.perm.symm) h.sorted d.sorted (fun a f b g e=>zjP i hn a (h.perm.mem_iff.1 f) b (h.perm.mem_iff.1 g) e)
theorem jw.len(h:jw TL ts):ts.length=TL.length:=by rw[h.perm.length_eq,List.length_map]
theorem zmT{B:Nat}{e:TypeId}{v:Value}{l:List Tsk}(h:w.ownsRow B e 11 v l.length (l.flatMap (X7 QL))){i:Nat}(a:l[i]?=E x):
  ∃g cap,v=.slice (E (U g 0)) l.length cap/\g<w.1.size/\∀j,j<11->w.cell? (U g (i*11+j))=(X7 QL x)[j]?:=by
 have d:i<l.length:=(List.getElem?_eq_some_iff.1 a).1;obtain⟨g,cap,hv,_,c⟩:=h.form (by omega);subst hv;refine⟨g,cap,rfl,c,fun j b=>?_⟩;rw[h.cellAt (i*11+j) (by omega)];exact kZ (zjQ QL) l i x j a b
end Go.Proofs.YtndhpgciopcncaaGreatDoor
namespace Go.Proofs.YtndhpgciopcncaaGreatDoor
open Go.RowKit Go.Maps Go.Shelf Go.Sort
variable {w:L}
theorem zlc{base g cap:Nat}{e:TypeId}{xs:List Tsk}(h:w.ownsRow base e 4 (.slice (E (U g 0)) xs.length cap) xs.length (xs.flatMap Vw)):HoldsK Vw 4 w g 0 xs.toArray:=fun j c=>by
 have hj':j<xs.length*4:=by simpa[size_flatK]using c
 rw[Nat.zero_add];refine⟨?_,h.frozenAt j⟩;rw[h.cellAt j hj',get_flatK _ _ _ _ (by simpa using hj')];have b:j/4<xs.length:=by omega
 have:=kZ zaz xs (j/4) xs[j/4] (j%4) (by simp[b]) (by omega);rw[show j/4*4+j%4=j by omega]at this;rw[this,getElem!_pos xs.toArray (j/4) (by simpa using b)];have a:j%4<(Vw xs[j/4]).length:=by rw[zaz];omega
 simp only[id,List.getElem_toArray];rw[getElem!_pos (Vw xs[j/4]) (j%4) a,List.getElem?_eq_getElem a]
theorem zcP(gf:Nat)(lb:Array Value)(i:∀args w,(callFunc gf args).run prog w=.ok (.enter gf args) w){N:Nat}{S:List Tsk->Prop}(w:L)(j:N<=1000000)(c:Yi Fence.wide 6 prog gf lb (fun x:Tsk=>#[.agg (tZz x)]) KeepsWalks S (fun _=>True) N 0 w):
  Calls prog 164 #[.func (.func gf) #[] lb] w fun e w'=>∃xs a cap,S xs/\e=.returned (.slice a xs.length cap)/\w'.ownsRow w.1.size 177 4 (.slice a xs.length cap) xs.length (xs.flatMap Vw)/\A w.1.size w w':=by
 have d:=ze (zhp gf lb i w j c);clear c;go_enter func164,ntmps164;go_wp2_with fail;refine(ud d).mono ?_;rintro e w' ⟨xs,v,k,rfl,b,f⟩;obtain⟨a,cap,rfl⟩:=zR b;have h:=ze b;have g:=ze f;clear b f d;go_wp2_with fail;go_ret;exact⟨xs,a,cap,k,rfl,ud h,ud g⟩
theorem zjw{Bm b:Nat}{TL:List (Jk×Tsk)}(y:Bm<w.1.size)(H:w.cell? (U Bm 0)=E (.map (E b)))(c:xi qi w b TL)(f:TL.length<=1000000):
  Calls prog 105 #[.func (.func 158) #[] #[(O Bm)],.func (.func 106) #[] #[]] w fun e w'=>
   ∃ts a cap,jw TL ts/\e=.returned (.slice a ts.length cap)/\(ts≠[]->∃g,a=E (U g 0)/\g<w'.1.size/\HoldsK Vw 4 w' g 0 ts.toArray)/\A w.1.size w w':=by
 have C:=ze (zcP _ _ zmN w f (zoi id id Bm b TL (fun _ _=>rfl) w y H c));clear H c;go_enter func105,ntmps105;go_wp2_with fail;refine(ud C).mono ?_;rintro e w1 ⟨xs,a,cap,⟨ps,I,K⟩,rfl,c,i⟩;have k:xs.Perm (TL.map (fun p=>p.2)):=by rw[K];exact I.map _
 clear C K I;have m:=ze k;have S:xs.length<=1000000:=by rw[k.length_eq,List.length_map];exact f
 clear k;by_cases P:xs.length=0
 ·have o:xs=[]:=List.length_eq_zero_iff.1 P;subst o;have t:=ze (zjy a cap w1);have u:=ze i;clear c i;simp only[List.length_nil];go_wp2_with fail;refine(ud t).mono ?_;rintro e w2 ⟨rfl,rfl⟩;go_wp2_with fail;go_ret;exact⟨[],a,cap,⟨ud m,List.Pairwise.nil⟩,rfl,fun h=>absurd rfl h,ud u⟩
 ·obtain⟨g,F,hv,T,n⟩:=c.form (by omega);injection hv with z R B;subst z B;have t:=ze (zma g cap xs w1 (zlc c) n (by omega));have u:=ze i;clear c i;go_wp2_with fail;refine(ud t).mono ?_;rintro e w2 ⟨rfl,ys,l,s,q,d⟩;have M:=ze d;have N:=ze q;have v:=ze l;have x:=ze s;have r:xs.length=ys.length:=l.length_eq.symm;rw[r];clear d q t l r s;go_wp2_with fail;go_ret;have d:=ud M;have i:=ud u;exact⟨ys,E (U g 0),cap,⟨(ud v).trans (ud m),(ud x).imp (fun h=>by omega)⟩,rfl,fun _=>⟨g,rfl,J n d.size,ud N⟩,i.trans ⟨d.os,d.tape,d.output,d.size,fun j Q=>d.block j (J Q i.size) (by omega)⟩⟩
end Go.Proofs.YtndhpgciopcncaaGreatDoor
namespace Go.Proofs.YtndhpgciopcncaaGreatDoor
open Go.ChangeMaps (setBlock)
open Go.RowKit Go.Maps Go.Shelf
variable {c:Cf}
theorem Qr{m:RM}:∀(n:Nat),m.bestI n=none->∀i x,i<n->m.td[i]?=E x->m.freeT x=false
 |0,_,i,x,b,_=>absurd b (Nat.not_lt_zero _)
 |n+1,h,i,x,b,c=>by
  rw[Qs]at h;cases a:m.bestI n with
  |some j=>
   rw[a]at h;unfold RM.betterI at h;split at h
   ·cases h
   ·split at h
    ·simp only at h;split at h
     ·cases h
     ·split at h<;>cases h
    ·cases h
  |none=>
   by_cases e:i=n
   ·subst e;cases d:m.freeT x with
    |false=>rfl
    |true=>rw[a,QS c d]at h;cases h
   ·exact Qr n a i x (by omega) c
theorem jO{m:RM}(f:Tk->Tsk)(g:∀k∈m.td,TkT k (f k)/\(f k).se<=m.now):∀(n j:Nat) (l:Tk),m.bestI n=E j->m.td[j]?=E l->∀i x,i<n->m.td[i]?=E x->m.freeT x=true->¬Vh m.c m.now m.tight (f x) (f l)<0
 |0,j,l,h,d,i,x,u,_,_=>absurd u (Nat.not_lt_zero _)
 |n+1,j,l,h,d,i,x,u,b,a=>by
  rw[Qs]at h;have B:=g l (List.mem_of_getElem? d);have C:=g x (List.mem_of_getElem? b);cases hn:m.td[n]? with
  |none=>
   have e:m.betterI (m.bestI n) n=m.bestI n:=(by unfold RM.betterI;rw[hn]);rw[e]at h;have:¬i=n:=fun e=> (by subst e;rw[hn]at b;cases b);exact jO f g n j l h d i x (by omega) b a
  |some y=>
   have p:=g y (List.mem_of_getElem? hn);cases s:m.freeT y with
   |false=>
    rw[zhy hn s]at h;have:¬i=n:=fun e=> (by subst e;rw[hn]at b;cases b;rw[s]at a;cases a);exact jO f g n j l h d i x (by omega) b a
   |true=>
    cases o:m.bestI n with
    |none=>
     rw[o,QS hn s]at h;cases h;rw[hn]at d;cases d;by_cases e:i=n
     ·subst e;rw[hn]at b;cases b;exact zdt _ _ _ _
     ·have:=Qr n o i x (by omega) b;rw[this]at a;cases a
    |some j'=>
     obtain⟨v,z,t,F⟩:=Yv m n o;have q:=g z (List.mem_of_getElem? t);have w:=jO f g n j' z o t;rw[o,zfo hn s t,zhk p.1 q.1 p.2 q.2]at h;by_cases r:Vh m.c m.now m.tight (f y) (f z)<0
     ·rw[if_pos (by simpa using r)]at h;cases h;rw[hn]at d;cases d;by_cases e:i=n
      ·subst e;rw[hn]at b;cases b;exact zdt _ _ _ _
      ·exact ziQ _ _ _ _ (f z) _ (w i x (by omega) b a) (ziP _ _ _ _ _ r)
     ·rw[if_neg (by simpa using r)]at h;cases h;rw[t]at d;cases d;by_cases e:i=n
      ·subst e;rw[hn]at b;cases b;exact r
      ·exact w i x (by omega) b a
def VA(c:Cf)(now:Int)(a:Bool)(QL:List (Tok×Lse))(TL:List (Jk×Tsk))(x:Tsk):Prop:=∀q∈TL,kn QL now q.2=true->¬Vh c now a q.2 x<0
theorem zbi{now:Int}{a:Bool}{l:List (zkr c now)}{g:zkr c now}(h:Zq (fun x y:zkr c now=>Vh c now a x.1 y.1) l=E g):∀x∈l,¬Vh c now a x.1 g.1<0:=by
 cases l with
 |nil=>simp[Zq]at h
 |cons f l=>
  obtain⟨d,e⟩:=Xq (fun x y:zkr c now=>Vh c now a x.1 y.1) (fun x y z=>ziQ c now a x.1 y.1 z.1) (fun x=>zdt c now a x.1) (fun x y=>ziP c now a x.1 y.1) l f g h;intro x b;rcases List.mem_cons.1 b with rfl|b
  ·exact d
  ·exact e x b
theorem zfp{w:L}{b:Nat}{a:Option Addr}{cap:Nat}{ep num:Int}{tb qb:Nat}{TL:List (Jk×Tsk)}{QL:List (Tok×Lse)}(h:zC w b c (.slice a c.n cap) ep num tb qb TL QL)(hc:c.ok)(aD:TS w a c.n c.F c.W c.K)(now:Int)(f:Bool)(d:0<=now/\now<=100000)(hT:∀p∈TL,YS c now p.2)(aC:QL.length<=100000):
  Calls prog 48 #[(O b),I now,.bool f] w fun e w'=>A w.1.size w w'/\((e=.returned (.tuple #[.nilIface,.bool false])/\∀p∈TL,kn QL now p.2=false)\/∃p,p∈TL/\kn QL now p.2=true/\VA c now f QL TL p.2/\e=.returned (.tuple #[(jZz p.2),.bool true])):=by
 have aN:=h.lt;obtain⟨y0,y1,a7,yz⟩:=box2 w (.cells #[(O b)] 91) (.cells #[I now] 3);have hX:=h.later a7;have x9:=hX.cell9;have aM:=hX.lt;obtain⟨m0,-⟩:=zc y0;obtain⟨m1,-⟩:=zc y1;have ar:=ze (zih tb ((w.alloc (.cells #[(O b)] 91)).alloc (.cells #[I now] 3)));have Y0:=ze y0;have Y1:=ze y1;have a2:=ze a7;have YZ:=ze yz;have H:=ze h;have a8:=zd y0;have a9:=zd y1;clear h hX y0 y1 a7 yz;go_enter func48,ntmps48;go_wp2_with fail;generalize((w.alloc (.cells #[(O b)] 91)).alloc (.cells #[I now] 3))=X at*;refine(ud ar).mono ?_;rintro e i ⟨rfl,N⟩;have P:A X.1.size X i:=by rw[N];exact(G _ _).alloc (Z _) _
 have ad:i.1[X.1.size]?=E (.cells #[.map (E tb)] 169 (0,0)):=by rw[N];exact zq _ _
 have ai:i.1.size=X.1.size+1:=by rw[N];exact zM _ _
 have au:=ze (zpj 158 #[(O X.1.size)] 98 #[] #[(O (w.1.size+1)),(O w.1.size)] i);have n0:=(P.cell (p:=(U w.1.size 0)) a8).trans m0;have n1:=(P.cell (p:=(U (w.1.size+1) 0)) a9).trans m1;have l:=ze P;have am:=ze ad;have av:=ze ai;clear N P ad ai m0 m1 x9;go_wp2_with fail;refine(ud au).mono ?_;rintro e j ⟨rfl,ac⟩;obtain⟨ah,ag,Q,aj⟩:j.1[i.1.size]?=E (.cells #[.func (.func 158) #[] #[(O X.1.size)]] 174 (0,0))/\j.1[i.1.size+1]?=E (.cells #[.func (.func 98) #[] #[(O (w.1.size+1)),(O w.1.size)]] 179 (0,0))/\A i.1.size i j/\j.1.size=i.1.size+2:=by rw[ac];exact box2 i _ _
 have a0:=J a8 (ud l).size;have a1:=J a9 (ud l).size;have q0:=(Q.cell (p:=(U w.1.size 0)) a0).trans n0;have q1:=(Q.cell (p:=(U (w.1.size+1) 0)) a1).trans n1;have aq:=ze ah;have ao:=ze ag;have B:=ze Q;have aw:=ze aj;clear ac ah ag Q aj n0 n1;go_wp2_with fail;have an:=ze (ziR b now f j);refine(ud an).mono ?_;rintro e X3 ⟨rfl,hO,o,aE⟩;have S:A w.1.size w j:=(ud a2).trans (((ud l).mono (ud a2).size).trans ((ud B).mono (by have:=(ud l).size;have:=(ud a2).size;omega)));have k:=S.trans (o.mono S.size);have hZ:X.1.size=w.1.size+2:=ud YZ;have ax:i.1.size=X.1.size+1:=ud av;have ay:j.1.size=i.1.size+2:=ud aw;have a5:=(ud H).later S;have Y:=((ud B).block _ (by omega)).trans (ud am);have V:=((ud B).block _ a1).trans (((ud l).block _ a9).trans (ud Y1));have T:=((ud B).block _ a0).trans (((ud l).block _ a8).trans (ud Y0));have u:=zpL (fun x:zkr c now=>x.1) (zpt c now d.1) (ex:=fun _=>False) (n:=j.1.size) X.1.size tb TL (fun p R=>Q5 d.1 (hT p R)) j (fun e=>e) (by omega) (by rw[xR Y];rfl) a5.td;have v:=zke (fun x:zkr c now=>x.1) 158 #[(O X.1.size)] zmN 98 #[] #[(O (w.1.size+1)),(O w.1.size)] zbM (fun x=>kn QL now x.1) i.1.size (i.1.size+1) j (Z _) ⟨by omega,fun e=>e⟩ ⟨by omega,fun e=>e⟩ (ud aq) (ud ao)
  (fun x W ⟨m,hk⟩=>by
   have a6:=Yz hk (Z _);have g1:=(a6.block _ (by omega)).trans V;have g0:=(a6.block _ (by omega)).trans T;exact ziV (a5.later a6) x.1 now aC (w.1.size+1) w.1.size (zd g1) (zd g0) (by rw[xR g1];rfl) (by rw[xR g0];rfl)) u
 have HF:=ze (zfB (fun x:zkr c now=>x.1) 157 #[(O i.1.size),(O (i.1.size+1))] zpg 161 #[(O (j.1.size+2)),(O (j.1.size+3))] zbJ (fun x y=>Vh c now f x.1 y.1) X3 (D (Z _) o.size)
  (fun x y W hW=>zfZ ((ud H).later (k.trans (hW.mono k.size))) hc (aD.below (k.trans (hW.mono k.size))) now d f j.1.size (hO.later hW) x.1 y.1 x.2 y.2)
  (v.later o))
 have r2:=(k.block);have C:=ze k;have aF:w.1.size<j.1.size:=by omega
 have aG:w.1.size+1<j.1.size:=by omega
 have ak:=(o.cell (p:=(U w.1.size 0)) aF).trans q0;have al:=(o.cell (p:=(U (w.1.size+1) 0)) aG).trans q1;have aJ:w.1.size+1<X3.1.size:=by omega
 clear S k a5 Y V T u v hO o r2 q0 q1 hZ ax ay aE;go_wp2_with fail;refine(ud HF).mono ?_;rintro e X4 ⟨xs,hS,rfl,r⟩;have aH:w.1.size<X3.1.size:=by omega
 have aI:w.1.size+1<X3.1.size:=by omega
 have z0:=(r.cell (p:=(U w.1.size 0)) aH).trans ak;have z1:=(r.cell (p:=(U (w.1.size+1) 0)) aI).trans al;have ab:=(ud H).later ((ud C).trans (r.mono (ud C).size));have aL:=ze ab;have M:=ze ((ud C).trans (r.mono (ud C).size));have aK:=r.size;have a3:=ze hS;clear HF ak al ab r hS;rcases zhY (fun x y:zkr c now=>Vh c now f x.1 y.1) xs with⟨af,hf⟩|⟨g,hg,hf⟩
 ·rw[hf];dsimp only[Option.map_none,Vo,Option.isSome_none];have z:=(ud M).alloc (ud M).size (.cells #[.nilIface,I 0,I 0,I 0] 177);have a4:=ze z;clear hf z;go_wp2_with fail;go_ret2;refine⟨ud a4,.inl ⟨rfl,fun p R=>?_⟩⟩;obtain⟨zs,⟨ps,s,rfl⟩,t⟩:=ud a3;rw[af]at t;cases az:kn QL now p.2 with
  |false=>rfl
  |true=>
   have:zpt c now d.1 p.2∈(ps.map (fun p:Jk×Tsk=>zpt c now d.1 p.2)).filter (fun x=>kn QL now x.1):=List.mem_filter.2 ⟨List.mem_map.2 ⟨p,s.mem_iff.2 R,rfl⟩,by rw[Q5 d.1 (hT p R)];exact az⟩;rw[<-t]at this;simp at this
 ·rw[hf];dsimp only[Option.map_some,Vo,Ql,Option.isSome_some];have aa:Hid (VA c now f QL TL g.1):=fun q hq aA=>by
   obtain⟨zs,⟨ps,s,rfl⟩,t⟩:=ud a3;have ae:zpt c now d.1 q.2∈xs:=(by rw[t];exact List.mem_filter.2 ⟨List.mem_map.2 ⟨q,s.mem_iff.2 hq,rfl⟩,by rw[Q5 d.1 (hT q hq)];exact aA⟩);have:=zbi hf _ ae;rw[Q5 d.1 (hT q hq)]at this;exact this
  obtain⟨x,hx⟩:=g;have ap:Hid (∃p,p∈TL/\p.2=x/\kn QL now x=true):=by
   obtain⟨zs,⟨ps,s,rfl⟩,t⟩:=ud a3;rw[t]at hg;obtain⟨h1,h2⟩:=List.mem_filter.1 hg;obtain⟨p,R,e⟩:=List.mem_map.1 h1;have e2:=congrArg Subtype.val e;rw[Q5 d.1 (hT p (s.mem_iff.1 R))]at e2;exact⟨p,s.mem_iff.1 R,e2,h2⟩
  clear hf hg;have z:=(ud M).alloc (ud M).size (.cells (tZz x) 177);have a4:=ze z;clear z;go_wp2_with fail;go_ret2;obtain⟨p,R,rfl,aB⟩:=ud ap;exact⟨ud a4,.inr ⟨p.1,p.2,R,aB,ud aa,rfl⟩⟩
end Go.Proofs.YtndhpgciopcncaaGreatDoor
namespace Go.Proofs.YtndhpgciopcncaaGreatDoor
open Go.RowKit Go.Maps Go.Shelf Go.Sort
variable {w:L}
theorem Tryz.infoJob:(prog.info? 51).map (fun i=>(i.zero,i.size,i.bytes))=E (E (.agg #[I 0,I 0,I 0,I 0,I 0,I 0,I 0,I 0,I 0,I 0,I 0]),11,88):=by kernel_rfl
theorem zlD{ops:Array Oper}{rest:List Oper}{o:Oper}{a:Act}{Q:Exit->Act->L->Prop}(d:o.guard=none)(s y:Operand)(j:o.op=.call {callee:=.builtin .append,args:=#[s,y],argTypes:=#[55,55]})(base:Nat)(v:Value)(QL:List (Tok×Lse))(l:List Tsk)(x:Tsk)(n:Nat)(k:a.eval s=v)(b:w.ownsRow base 51 11 v n (l.flatMap (X7 QL)))(B1:Nat)(m:a.eval y=.slice (E (U B1 0)) 1 1)(c:w.1[B1]?=E (.cells #[I x.kd,I x.s.t,I x.s.sr,I x.s.wn,I x.se,I x.ti,I x.rest,I (jD QL x).1.ep,I (jD QL x).1.num,I (jD QL x).2.1,I (jD QL x).2.2] 51 (0,0)))(r:n<=1000000)(hbase:base<=w.1.size)(h:∀g cap w',w'.ownsRow base 51 11 (.slice (E (U g 0)) (n+1) cap) (n+1) ((l++[x]).flatMap (X7 QL))->w.grownBy w' v.ownBlock->g<w'.1.size->wpList prog ops Q rest (a.put o.dst (.slice (E (U g 0)) (n+1) cap)) w'):wpList prog ops Q (o::rest) a w:=
 xQ d s y 55 j base 51 _ 11 88 underlying55 Tryz.infoJob rfl (by decide) v n (l.flatMap (X7 QL)) k b (U B1 0) 1 1 (X7 QL x) m rfl
  (World.news_of_block (cs:=(X7 QL x).toArray) c) (zjR QL x) (by decide) (by simp only[maxLen];omega) (by omega) hbase
  fun g cap w' e p f q i=>h g cap w' (by rw[List.flatMap_append];simpa using e) f i
theorem zls{b:Nat}{c:Cf}{tv:Value}{ep num:Int}{tb qb:Nat}{TL:List (Jk×Tsk)}{QL:List (Tok×Lse)}(h:zC w b c tv ep num tb qb TL QL)(hu:(QL.map (fun q=>q.2.job)).Nodup)(z:TL.length<=1000000):
  Calls prog 50 #[(O b)] w fun e w'=>∃ts a cap,jw TL ts/\e=.returned (.slice a ts.length cap)/\w'.ownsRow w.1.size 51 11 (.slice a ts.length cap) ts.length (ts.flatMap (X7 QL))/\A w.1.size w w':=by
 have a9:=h.lt;have c9:=h.cell9;have HV:=ze (zih tb w);have b0:=zq w (.cells #[.map (E tb)] 169);have K:A w.1.size w (w.alloc (.cells #[.map (E tb)] 169)):=(G _ _).alloc (Z _) _;have HS:=ze (zjw (w:=w.alloc (.cells #[.map (E tb)] 169)) (Bm:=w.1.size) (b:=tb) (TL:=TL) (by rw[zM];omega) (by rw[xR b0];rfl) (h.later K).td z);have H:=ze h;have Q:=ze K;clear h b0 K;go_enter func50,ntmps50;go_wp2_with fail;refine(ud HV).mono ?_;rintro e w0 ⟨rfl,rfl⟩;go_wp2_with fail;refine(ud HS).mono ?_;rintro e w1 ⟨ts,a,cap,hJ,rfl,C,T⟩;have r:=(ud Q).trans (T.mono (ud Q).size);clear c9 HV HS T;have HJ:=ze hJ;have HR:=ze C;have HB:=ze r;clear hJ C r;go_wp2_with fail;have P:w.1.size<=w1.1.size:=(ud HB).size;have ad:ts.length<=1000000:=by rw[(ud HJ).len];exact z
 go_loopw [3,5,13] (fun o _ y wr=>∃(k:Nat),k<=ts.length/\y=I k/\wr.ownsRow w1.1.size 51 11 o k ((ts.take k).flatMap (X7 QL))/\RowKit.Below w1.1.size w1 wr) (fun _ _ y _=>ts.length-(intOf y).toNat);case atStart=>exact⟨0,Nat.zero_le _,rfl,World.ownsRow_nil _ _ _ _,G _ _⟩
 case round=>
  obtain⟨k,hk,rfl,F,r⟩:=hrel;obtain⟨az,cz,a5⟩:=zR F;subst a5;by_cases n:k<ts.length
  ·obtain⟨g,a3,W,hH⟩:=ud HR (fun e=>by rw[e]at n;simp at n);subst a3;obtain⟨x,hx⟩:=vr n;have a7:(k:Int)<ts.length:=(by omega);have m:∀j,j<4->wr.cell? (U g (k*4+j))=E (Vw x)[j]!:=fun j hj=>by
    have h1:=(hH.cell (i:=k) (c:=j) (by simpa using n) hj).1;rw[Nat.zero_add]at h1;rw[r.cell (p:=(U g (k*4+j))) W,h1];obtain⟨X,N⟩:=List.getElem?_eq_some_iff.1 hx;rw[getElem!_pos ts.toArray k (by simpa using n)];simp only[List.getElem_toArray,N]
   have x0:Cz wr g (k*4) (jZz x):=m 0 (by omega);have x1:Cz wr g (k*4+1) (I x.se):=m 1 (by omega);have x2:Cz wr g (k*4+2) (I x.ti):=m 2 (by omega);have x3:Cz wr g (k*4+3) (I x.rest):=m 3 (by omega);have aa:=J W r.size;have M:RowKit.Below wr.1.size wr (wr.alloc (.cells (tZz x) 177)):=(G _ _).alloc (Z _) _;have V:RowKit.Below w.1.size w wr:=(ud HB).trans (r.mono P);have S:=((ud H).later V).later M;have HT:=ze (zmt S hu x);have Y:=zq wr (.cells (tZz x) 177);obtain⟨e0,e1,e2,e3,-⟩:=zc Y;have HZ:=ze F;have d:=ze r;have u:=ze M;have HX:=ze hx;clear F r M hx S Y hH m HR V;go_wp2_with fail;refine(ud HT).mono ?_;rintro e w2 ⟨he,v⟩;subst he;unfold X7;have a0:=ze v;have R:=ze (zh (zh (ud HZ) (zi.of_below (f:=fun _=>False) (ud u)) (fun _ _ e=>e)) (zi.of_below (f:=fun _=>False) v) (fun _ _ e=>e));have ac:w1.1.size<=w2.1.size:=D (ud d).size (D (ud u).size v.size);clear v HT e0 e1 e2 e3 x0 x1 x2 x3;go_wp2_with(first|(at_builtin;refine zlD rfl _ _ rfl w1.1.size _ QL (ts.take k) x k rfl ((ud R).alloc _) w2.1.size rfl (zq _ _) ?hll ?hbb ?_;(case hll=>omega);(case hbb=>(rw[zM];omega));intro g2 a6 w3 B l a8;have a2:=ze B;have a1:=ze l;clear B l)|fail);go_roundw;case rel=>
    obtain⟨X,N⟩:=List.getElem?_eq_some_iff.1 (ud HX);refine⟨k+1,by omega,by go_num,?_,?_⟩
    ·rw[List.take_succ_eq_append_getElem X,N];exact ud a2
    ·have hg:(w2.alloc (.cells #[I x.kd,I x.s.t,I x.s.sr,I x.s.wn,I x.se,I x.ti,I x.rest,I (jD QL x).1.ep,I (jD QL x).1.num,I (jD QL x).2.1,I (jD QL x).2.2] 51)).grownBy w3 (Value.slice az k cz).ownBlock:=ud a1;have hbb:RowKit.Below w1.1.size w1 w2:=(ud d).trans (((ud u).mono (ud d).size).trans ((ud a0).mono (D (ud d).size (ud u).size)));exact(hbb.alloc hbb.size _).grown hg (by rw[zM];omega) (fun j e=>((ud R).lt j e).1)
   case measure=>simp[intOf];omega
  ·have a4:k=ts.length:=(by omega);subst a4;have ab:decide ((ts.length:Int)<ts.length)=false:=(by simp);have HZ:=ze F;have d:=ze r;clear F r HR;go_wp2_with fail;go_ret;have F:=ud HZ;rw[List.take_length]at F;exact⟨ts,az,cz,ud HJ,rfl,kI F P,(ud HB).trans ((ud d).mono P)⟩
end Go.Proofs.YtndhpgciopcncaaGreatDoor
