import Derived.Test.YtndhpgciopcncaaGreatDoorUOrd4
open Go.Value renaming int → I
open Go.IntKind renaming i64 → J
open Option renaming none → O
open Nat renaming lt_of_lt_of_le → E
open Option renaming some → Q
open Nat renaming le_refl → U
open Go.RowKit renaming Below → Z
open Nat renaming le_trans → N
open Go.RowKit.Below renaming refl → S
set_option linter.unusedVariables false
set_option maxRecDepth 20000
set_option maxHeartbeats 8000000
open Go.Proofs.Tryz
namespace Go.Proofs.YtndhpgciopcncaaGreatDoor
open Go.ChangeMaps (setBlock)
open Go.RowKit Go.Maps Go.Shelf
theorem byKey_any(x y:Tsk)(w:World):
  Calls prog 106 #[.agg #[.iface x.jt (.agg #[I J x.s.t,I J x.s.sr,I J x.s.wa]),I J x.se,I J x.ti,I J x.rest],.agg #[.iface y.jt (.agg #[I J y.s.t,I J y.s.sr,I J y.s.wa]),I J y.se,I J y.ti,I J y.rest]] w fun e w'=>e=.returned (I J (vH x y))/\Z w.1.size w w':=
 (Dr.byKey_any x y w).mono fun e w' ⟨a,b⟩=>⟨a,b.bel⟩
structure Xi(c:Cf)(now:Int)(x:Tsk):Prop where
 t1: -1<=x.s.t
 t2:x.s.t<c.n
 wa:0<=x.s.wa/\x.s.wa<=100000
 se:0<=x.se/\x.se<=now
def yG(c:Cf)(now:Int)(x:Tsk):Int:=match x.rl with
 |true=>(x.s.wa+1)*c.wt x.s.t-(now-x.se)/4
 |false=>(x.s.wa+1)*c.wt x.s.t+c.keep x.s.t-(now-x.se)/4
theorem Vh{w:World}{b:Nat}{c:Cf}{a:Option Addr}{cap:Nat}{ep num:Int}{tb qb:Nat}{TL:List (Jk×Tsk)}{QL:List (Tok×Lse)}(h:zA w b c (.slice a c.n cap) ep num tb qb TL QL)(m:c.ok)(j:TS w a c.n c.F c.W c.K)(now:Int)(d:0<=now/\now<=100000)(x:Tsk)(f:Xi c now x)
  (g i:Nat) (o:g<w.1.size) (p:i<w.1.size) (k:w.cell? ⟨g,0,O⟩=Q (.pointer (Q ⟨b,0,O⟩))) (l:w.cell? ⟨i,0,O⟩=Q (I J now)):
  Calls prog 160 #[.agg #[.iface x.jt (.agg #[I J x.s.t,I J x.s.sr,I J x.s.wa]),I J x.se,I J x.ti,I J x.rest],.pointer (Q ⟨g,0,O⟩),.pointer (Q ⟨i,0,O⟩)] w fun e w'=>e=.returned (I J (yG c now x))/\Z w.1.size w w':=by
 obtain⟨rl,s,se,ti,rest⟩:=x
 cases rl with
 |true=>exact zbf h m j s se ti rest now f.t1 f.t2 f.wa d f.se g i o p k l
 |false=>exact YB h m j s se ti rest now f.t1 f.t2 f.wa d f.se g i o p k l
def zhP(a:Bool)(x y:Tsk):Int:=match a with
 |true=>kz y.kd x.kd
 |false=>0
def KP(c:Cf)(now:Int)(a:Bool)(x y:Tsk):Int:=orL [zhP a x y,kz (yG c now x) (yG c now y),vH x y]
theorem zcO(s:Sg)(w:World):Calls prog 334 #[.agg #[I J s.t,I J s.sr,I J s.wa]] w fun e w'=>e=.returned (I J 1)/\Z w.1.size w w':=by
 go_enter func334,ntmps334
 go_wp2_with fail
 go_ret
 first|exact⟨rfl,(S _ _).alloc (U _) _⟩|exact⟨rfl,S _ _⟩
theorem zcN(s:Sg)(w:World):Calls prog 337 #[.agg #[I J s.t,I J s.sr,I J s.wa]] w fun e w'=>e=.returned (I J 2)/\Z w.1.size w w':=by
 go_enter func337,ntmps337
 go_wp2_with fail
 go_ret
 first|exact⟨rfl,(S _ _).alloc (U _) _⟩|exact⟨rfl,S _ _⟩
theorem KE(x:Tsk):∃f:Nat,(∀w,(method 518 x.jt (.agg #[I J x.s.t,I J x.s.sr,I J x.s.wa]) "Kind").run prog w=.ok (f,.agg #[I J x.s.t,I J x.s.sr,I J x.s.wa]) w)/\(∀w,Calls prog f #[.agg #[I J x.s.t,I J x.s.sr,I J x.s.wa]] w fun e w'=>e=.returned (I J x.kd)/\Z w.1.size w w')/\(∀args w,(callFunc f args).run prog w=.ok (.enter f args) w):=by
 obtain⟨rl,s,se,ti,rest⟩:=x
 cases rl with
 |true=>exact⟨334,kI s,zcO s,enters_of func334 (by kernel_rfl) rfl⟩
 |false=>exact⟨337,yh s,zcN s,enters_of func337 (by kernel_rfl) rfl⟩
theorem zaX{w:World}{b:Nat}{c:Cf}{a:Option Addr}{cap:Nat}{ep num:Int}{tb qb:Nat}{TL:List (Jk×Tsk)}{QL:List (Tok×Lse)}(h:zA w b c (.slice a c.n cap) ep num tb qb TL QL)(hc:c.ok)(aV:TS w a c.n c.F c.W c.K)(now:Int)(ar:0<=now/\now<=100000)(a9:Bool)(q:Nat)(hO:zbL w b now a9 q)(x y:Tsk)(hx:Xi c now x)(hy:Xi c now y):
  Calls prog 161 #[.agg #[.iface x.jt (.agg #[I J x.s.t,I J x.s.sr,I J x.s.wa]),I J x.se,I J x.ti,I J x.rest],.agg #[.iface y.jt (.agg #[I J y.s.t,I J y.s.sr,I J y.s.wa]),I J y.se,I J y.ti,I J y.rest],.pointer (Q ⟨q+2,0,O⟩),.pointer (Q ⟨q+3,0,O⟩)] w fun e w'=>e=.returned (I J (KP c now a9 x y))/\Z w.1.size w w':=by
 obtain⟨t0,-⟩:=zc hO.b2
 have b8:=za hO.b2
 obtain⟨b1,b2,ae,bz⟩:=box2 w (.cells #[.iface x.jt (.agg #[I J x.s.t,I J x.s.sr,I J x.s.wa]),I J x.se,I J x.ti,I J x.rest] 177) (.cells #[.iface y.jt (.agg #[I J y.s.t,I J y.s.sr,I J y.s.wa]),I J y.se,I J y.ti,I J y.rest] 177)
 have b3:=(ae.block _ (za hO.b3)).trans hO.b3
 obtain⟨x0,x1,x2,x3,-⟩:=zc b1
 obtain⟨x4,x5,x6,x7,-⟩:=zc b2
 obtain⟨x8,-⟩:=zc b3
 have bh:=hO.later ae
 have bf:=za hO.b0
 have bg:=za hO.b1
 have be:=za hO.b3
 have aj:Hid (∀V:World,Z ((w.alloc (.cells #[.iface x.jt (.agg #[I J x.s.t,I J x.s.sr,I J x.s.wa]),I J x.se,I J x.ti,I J x.rest] 177)).alloc (.cells #[.iface y.jt (.agg #[I J y.s.t,I J y.s.sr,I J y.s.wa]),I J y.se,I J y.ti,I J y.rest] 177)).1.size ((w.alloc (.cells #[.iface x.jt (.agg #[I J x.s.t,I J x.s.sr,I J x.s.wa]),I J x.se,I J x.ti,I J x.rest] 177)).alloc (.cells #[.iface y.jt (.agg #[I J y.s.t,I J y.s.sr,I J y.s.wa]),I J y.se,I J y.ti,I J y.rest] 177)) V->w.1.size<=w.1.size->Hid (Calls prog 160 #[.agg #[.iface x.jt (.agg #[I J x.s.t,I J x.s.sr,I J x.s.wa]),I J x.se,I J x.ti,I J x.rest],.pointer (Q ⟨q,0,O⟩),.pointer (Q ⟨q+1,0,O⟩)] V fun e w'=>e=.returned (I J (yG c now x))/\Z V.1.size V w')):=fun V hV _=>by
  have hw:=ae.trans (hV.mono ae.size)
  have ad:=hO.later hw
  exact Vh (h.later hw) hc (aV.below hw) now ar x hx q (q+1) (za ad.b0) (za ad.b1) (by rw[xD ad.b0];rfl) (by rw[xD ad.b1];rfl)
 have ak:Hid (∀V:World,Z ((w.alloc (.cells #[.iface x.jt (.agg #[I J x.s.t,I J x.s.sr,I J x.s.wa]),I J x.se,I J x.ti,I J x.rest] 177)).alloc (.cells #[.iface y.jt (.agg #[I J y.s.t,I J y.s.sr,I J y.s.wa]),I J y.se,I J y.ti,I J y.rest] 177)).1.size ((w.alloc (.cells #[.iface x.jt (.agg #[I J x.s.t,I J x.s.sr,I J x.s.wa]),I J x.se,I J x.ti,I J x.rest] 177)).alloc (.cells #[.iface y.jt (.agg #[I J y.s.t,I J y.s.sr,I J y.s.wa]),I J y.se,I J y.ti,I J y.rest] 177)) V->w.1.size<=w.1.size->Hid (Calls prog 160 #[.agg #[.iface y.jt (.agg #[I J y.s.t,I J y.s.sr,I J y.s.wa]),I J y.se,I J y.ti,I J y.rest],.pointer (Q ⟨q,0,O⟩),.pointer (Q ⟨q+1,0,O⟩)] V fun e w'=>e=.returned (I J (yG c now y))/\Z V.1.size V w')):=fun V hV _=>by
  have hw:=ae.trans (hV.mono ae.size)
  have ad:=hO.later hw
  exact Vh (h.later hw) hc (aV.below hw) now ar y hy q (q+1) (za ad.b0) (za ad.b1) (by rw[xD ad.b0];rfl) (by rw[xD ad.b1];rfl)
 obtain⟨R,hR⟩:∃R,zhP a9 x y=R:=⟨_,rfl⟩
 obtain⟨PX,aR⟩:∃PX,yG c now x=PX:=⟨_,rfl⟩
 obtain⟨PY,aS⟩:∃PY,yG c now y=PY:=⟨_,rfl⟩
 obtain⟨CP,aQ⟩:∃CP,kz PX PY=CP:=⟨_,rfl⟩
 obtain⟨BK,aP⟩:∃BK,vH x y=BK:=⟨_,rfl⟩
 have aN:Hid (KP c now a9 x y=orL [R,CP,BK]):=by show _=_;unfold KP;rw[hR,aR,aS,aQ,aP]
 rw[aR]at aj
 rw[aS]at ak
 have ay:=fun W=>zd (byKey_any x y W)
 simp only[aP]at ay
 have az:=fun W=>zd (yI PX PY W)
 simp only[aQ]at az
 have ac:∀(Y W:World),W.1[Y.1.size]?=Q (.cells #[I J R,I J CP,I J BK] 3)->Hid (Calls prog 163 #[.slice (Q ⟨Y.1.size,0,O⟩) 3 3] W fun e w'=>e=.returned (I J (orL [R,CP,BK]))/\w'=W):=fun Y W hW=>
  zdf [R,CP,BK] (by simp) W Y.1.size (fun k v hk=>by
   rw[xD hW]
   match k,hk with
   |0,hk=>simp at hk;subst hk;rfl
   |1,hk=>simp at hk;subst hk;rfl
   |2,hk=>simp at hk;subst hk;rfl)
 have al:=zd ae
 have HR:=zd hR
 have tX:=(ae.cell (p:=⟨q+2,0,O⟩) b8).trans t0
 clear h hc aV ar hO hx hy aR aS aP hR bh b1 b2 b3 ae aQ t0
 cases a9 with
 |false=>
  go_enter func161,ntmps161
  have aA:(0:Int)=R:=ud HR
  go_wp2_with fail
  generalize hX:((w.alloc (.cells #[.iface x.jt (.agg #[I J x.s.t,I J x.s.sr,I J x.s.wa]),I J x.se,I J x.ti,I J x.rest] 177)).alloc (.cells #[.iface y.jt (.agg #[I J y.s.t,I J y.s.sr,I J y.s.wa]),I J y.se,I J y.ti,I J y.rest] 177))=X at*
  have D:w.1.size<X.1.size:=by omega
  have G:w.1.size+1<X.1.size:=by omega
  have ax:q+3<X.1.size:=by omega
  have aZ:q<X.1.size:=by omega
  have b7:q+1<X.1.size:=by omega
  have C:Hid (w.1.size<=X.1.size):=by show _<=_;omega
  clear hX bz be bf bg b8 tX
  generalize w.1.size+1=f at*
  generalize aU:w.1.size=d at*
  rw[aA]
  have bd:Z X.1.size X X:=S _ _
  obtain⟨V,aT⟩:∃V,X=V:=⟨_,rfl⟩
  have l:Hid (Z X.1.size X V):=by rw[<-aT];exact bd
  rw[aT]
  have v0:V.cell? ⟨d,0,O⟩=Q (.iface x.jt (.agg #[I J x.s.t,I J x.s.sr,I J x.s.wa])):=((ud l).cell (p:=⟨d,0,O⟩) D).trans x0
  have v1:V.cell? ⟨d,1,O⟩=Q (I J x.se):=((ud l).cell (p:=⟨d,1,O⟩) D).trans x1
  have v2:V.cell? ⟨d,2,O⟩=Q (I J x.ti):=((ud l).cell (p:=⟨d,2,O⟩) D).trans x2
  have v3:V.cell? ⟨d,3,O⟩=Q (I J x.rest):=((ud l).cell (p:=⟨d,3,O⟩) D).trans x3
  have v4:V.cell? ⟨f,0,O⟩=Q (.iface y.jt (.agg #[I J y.s.t,I J y.s.sr,I J y.s.wa])):=((ud l).cell (p:=⟨f,0,O⟩) G).trans x4
  have v5:V.cell? ⟨f,1,O⟩=Q (I J y.se):=((ud l).cell (p:=⟨f,1,O⟩) G).trans x5
  have v6:V.cell? ⟨f,2,O⟩=Q (I J y.ti):=((ud l).cell (p:=⟨f,2,O⟩) G).trans x6
  have v7:V.cell? ⟨f,3,O⟩=Q (I J y.rest):=((ud l).cell (p:=⟨f,3,O⟩) G).trans x7
  have v8:V.cell? ⟨q+3,0,O⟩=Q (.func (.func 160) #[] #[.pointer (Q ⟨q,0,O⟩),.pointer (Q ⟨q+1,0,O⟩)]):=((ud l).cell (p:=⟨q+3,0,O⟩) ax).trans x8
  have P:=E D (ud l).size
  have T:=E G (ud l).size
  have aw:=E ax (ud l).size
  have aY:=E aZ (ud l).size
  have b6:=E b7 (ud l).size
  clear aT bd x0 x1 x2 x3 x4 x5 x6 x7 x8
  have af:=ud aj V (ud l) (U _)
  have ag:=ud aj V.drew (ud l).drew (U _)
  go_region_held3 (fun w'=>w'.cell? ⟨d,0,O⟩=Q (.iface x.jt (.agg #[I J x.s.t,I J x.s.sr,I J x.s.wa]))/\w'.cell? ⟨d,1,O⟩=Q (I J x.se)/\w'.cell? ⟨d,2,O⟩=Q (I J x.ti)/\w'.cell? ⟨d,3,O⟩=Q (I J x.rest)/\w'.cell? ⟨f,0,O⟩=Q (.iface y.jt (.agg #[I J y.s.t,I J y.s.sr,I J y.s.wa]))/\w'.cell? ⟨f,1,O⟩=Q (I J y.se)/\w'.cell? ⟨f,2,O⟩=Q (I J y.ti)/\w'.cell? ⟨f,3,O⟩=Q (I J y.rest)/\w'.cell? ⟨q+3,0,O⟩=Q (.func (.func 160) #[] #[.pointer (Q ⟨q,0,O⟩),.pointer (Q ⟨q+1,0,O⟩)])) (go_keep) (first
   |(go_at_call 160;(first|(with_reducible refine(ud af).mono ?_)|(with_reducible refine(ud ag).mono ?_));rintro e z ⟨rfl,m⟩;have g:Z V.1.size V z:=⟨m.os,m.tape,m.output,m.size,m.block⟩;clear m;have a0:z.cell? ⟨d,0,O⟩=Q (.iface x.jt (.agg #[I J x.s.t,I J x.s.sr,I J x.s.wa])):=(g.cell (p:=⟨d,0,O⟩) P).trans v0;have a1:z.cell? ⟨d,1,O⟩=Q (I J x.se):=(g.cell (p:=⟨d,1,O⟩) P).trans v1;have a2:z.cell? ⟨d,2,O⟩=Q (I J x.ti):=(g.cell (p:=⟨d,2,O⟩) P).trans v2;have a3:z.cell? ⟨d,3,O⟩=Q (I J x.rest):=(g.cell (p:=⟨d,3,O⟩) P).trans v3;have a4:z.cell? ⟨f,0,O⟩=Q (.iface y.jt (.agg #[I J y.s.t,I J y.s.sr,I J y.s.wa])):=(g.cell (p:=⟨f,0,O⟩) T).trans v4;have a5:z.cell? ⟨f,1,O⟩=Q (I J y.se):=(g.cell (p:=⟨f,1,O⟩) T).trans v5;have a6:z.cell? ⟨f,2,O⟩=Q (I J y.ti):=(g.cell (p:=⟨f,2,O⟩) T).trans v6;have a7:z.cell? ⟨f,3,O⟩=Q (I J y.rest):=(g.cell (p:=⟨f,3,O⟩) T).trans v7;have a8:z.cell? ⟨q+3,0,O⟩=Q (.func (.func 160) #[] #[.pointer (Q ⟨q,0,O⟩),.pointer (Q ⟨q+1,0,O⟩)]):=(g.cell (p:=⟨q+3,0,O⟩) aw).trans v8;have A:=E P g.size;have B:=E T g.size;have au:=E aw g.size;have aW:=E aY g.size;have b4:=E b6 g.size;have ah:=ud ak z ((ud l).trans (g.mono (ud l).size)) (U _);have ai:=ud ak z.drew ((ud l).trans (g.mono (ud l).size)).drew (U _);have ao:=zd ((ud l).trans (g.mono (ud l).size));clear g af ag)
   |(go_at_call 160;(first|(with_reducible refine(ud ah).mono ?_)|(with_reducible refine(ud ai).mono ?_));rintro e H ⟨rfl,o⟩;have i:Z z.1.size z H:=⟨o.os,o.tape,o.output,o.size,o.block⟩;clear o;have c0:H.cell? ⟨d,0,O⟩=Q (.iface x.jt (.agg #[I J x.s.t,I J x.s.sr,I J x.s.wa])):=(i.cell (p:=⟨d,0,O⟩) A).trans a0;have c1:H.cell? ⟨d,1,O⟩=Q (I J x.se):=(i.cell (p:=⟨d,1,O⟩) A).trans a1;have c2:H.cell? ⟨d,2,O⟩=Q (I J x.ti):=(i.cell (p:=⟨d,2,O⟩) A).trans a2;have c3:H.cell? ⟨d,3,O⟩=Q (I J x.rest):=(i.cell (p:=⟨d,3,O⟩) A).trans a3;have c4:H.cell? ⟨f,0,O⟩=Q (.iface y.jt (.agg #[I J y.s.t,I J y.s.sr,I J y.s.wa])):=(i.cell (p:=⟨f,0,O⟩) B).trans a4;have c5:H.cell? ⟨f,1,O⟩=Q (I J y.se):=(i.cell (p:=⟨f,1,O⟩) B).trans a5;have c6:H.cell? ⟨f,2,O⟩=Q (I J y.ti):=(i.cell (p:=⟨f,2,O⟩) B).trans a6;have c7:H.cell? ⟨f,3,O⟩=Q (I J y.rest):=(i.cell (p:=⟨f,3,O⟩) B).trans a7;have c8:H.cell? ⟨q+3,0,O⟩=Q (.func (.func 160) #[] #[.pointer (Q ⟨q,0,O⟩),.pointer (Q ⟨q+1,0,O⟩)]):=(i.cell (p:=⟨q+3,0,O⟩) au).trans a8;have L:=E A i.size;have M:=E B i.size;have av:=E au i.size;have aX:=E aW i.size;have b5:=E b4 i.size;have ap:=zd ((ud ao).trans (i.mono (ud ao).size));clear i ah ai)
   |(go_at_call 162;(with_reducible refine(ud (az _)).mono ?_);rintro e V9 ⟨rfl,h9⟩;have aq:=h9.symm;subst aq)
   |(go_at_call 106;(with_reducible refine(ud (ay _)).mono ?_);rintro e u ⟨rfl,r⟩;have j:Z H.1.size H u:=⟨r.os,r.tape,r.output,r.size,r.block⟩;clear r;have d0:u.cell? ⟨d,0,O⟩=Q (.iface x.jt (.agg #[I J x.s.t,I J x.s.sr,I J x.s.wa])):=(j.cell (p:=⟨d,0,O⟩) L).trans c0;have d1:u.cell? ⟨d,1,O⟩=Q (I J x.se):=(j.cell (p:=⟨d,1,O⟩) L).trans c1;have d2:u.cell? ⟨d,2,O⟩=Q (I J x.ti):=(j.cell (p:=⟨d,2,O⟩) L).trans c2;have d3:u.cell? ⟨d,3,O⟩=Q (I J x.rest):=(j.cell (p:=⟨d,3,O⟩) L).trans c3;have d4:u.cell? ⟨f,0,O⟩=Q (.iface y.jt (.agg #[I J y.s.t,I J y.s.sr,I J y.s.wa])):=(j.cell (p:=⟨f,0,O⟩) M).trans c4;have d5:u.cell? ⟨f,1,O⟩=Q (I J y.se):=(j.cell (p:=⟨f,1,O⟩) M).trans c5;have d6:u.cell? ⟨f,2,O⟩=Q (I J y.ti):=(j.cell (p:=⟨f,2,O⟩) M).trans c6;have d7:u.cell? ⟨f,3,O⟩=Q (I J y.rest):=(j.cell (p:=⟨f,3,O⟩) M).trans c7;have d8:u.cell? ⟨q+3,0,O⟩=Q (.func (.func 160) #[] #[.pointer (Q ⟨q,0,O⟩),.pointer (Q ⟨q+1,0,O⟩)]):=(j.cell (p:=⟨q+3,0,O⟩) av).trans c8;have bi:=E L j.size;have bj:=E M j.size;have bk:=E av j.size;have bl:=E aX j.size;have bm:=E b5 j.size;have aK:=ac u (u.alloc (.cells #[I J R,I J CP,I J BK] 3)) (zm _ _);have aL:=ac u (u.alloc (.cells #[I J R,I J CP,I J BK] 3)).drew (zm _ _);have aM:=ac u (u.drew.alloc (.cells #[I J R,I J CP,I J BK] 3)) (zm u.drew _);have aO:=zd ((ud ap).trans (j.mono (ud ap).size));clear j ac)
   |(go_at_call 163;(first|(with_reducible refine(ud aK).mono ?_)|(with_reducible refine(ud aL).mono ?_)|(with_reducible refine(ud aM).mono ?_));rintro e V8 ⟨rfl,rfl⟩))
  go_wp2_with fail
  go_ret
  have h3:=ud aO
  exact⟨by rw[ud aN];rfl,by rw[aU];first|exact((ud al).trans ((h3.mono (ud C)).alloc (N (ud C) h3.size) _)).drew|exact(ud al).trans ((h3.mono (ud C)).alloc (N (ud C) h3.size) _)|exact(ud al).trans ((h3.mono (ud C)).drew.alloc (N (ud C) h3.size) _)⟩
 |true=>
  obtain⟨fx,mx,kx,ex⟩:=KE x
  obtain⟨fy,my,ky,ey⟩:=KE y
  have aI:=fun W=>zd (kx W)
  have aJ:=fun W=>zd (ky W)
  have aA:kz y.kd x.kd=R:=ud HR
  have aH:=fun W=>zd (yI y.kd x.kd W)
  simp only[aA]at aH
  clear kx ky aA
  go_enter func161,ntmps161
  go_wp2_with fail
  generalize hX:((w.alloc (.cells #[.iface x.jt (.agg #[I J x.s.t,I J x.s.sr,I J x.s.wa]),I J x.se,I J x.ti,I J x.rest] 177)).alloc (.cells #[.iface y.jt (.agg #[I J y.s.t,I J y.s.sr,I J y.s.wa]),I J y.se,I J y.ti,I J y.rest] 177))=X at*
  have D:w.1.size<X.1.size:=by omega
  have G:w.1.size+1<X.1.size:=by omega
  have ax:q+3<X.1.size:=by omega
  have aZ:q<X.1.size:=by omega
  have b7:q+1<X.1.size:=by omega
  have C:Hid (w.1.size<=X.1.size):=by show _<=_;omega
  clear hX bz be bf bg b8 tX
  generalize w.1.size+1=f at*
  generalize aU:w.1.size=d at*
  rename_i Q1 K1 hK1
  have b9:Hid (∀(u9 aB aC aD aE aF aG:Value) (V:World),Z X.1.size X V->K1 {tmps:=#[.agg #[.iface x.jt (.agg #[I J x.s.t,I J x.s.sr,I J x.s.wa]),I J x.se,I J x.ti,I J x.rest],.agg #[.iface y.jt (.agg #[I J y.s.t,I J y.s.sr,I J y.s.wa]),I J y.se,I J y.ti,I J y.rest],.pointer (Q ⟨q+2,0,O⟩),.pointer (Q ⟨q+3,0,O⟩),.pointer (Q ⟨d,0,O⟩),.pointer (Q ⟨f,0,O⟩),I J 0,I J R,.bool true,u9,aB,aC,aD,aE,aF,aG,undef,undef,undef,undef,undef,undef,undef,undef,undef,undef,undef,undef,undef],defers:=[]} V):=by
   show∀(u9 aB aC aD aE aF aG:Value) (V:World),Z X.1.size X V->K1 {tmps:=#[.agg #[.iface x.jt (.agg #[I J x.s.t,I J x.s.sr,I J x.s.wa]),I J x.se,I J x.ti,I J x.rest],.agg #[.iface y.jt (.agg #[I J y.s.t,I J y.s.sr,I J y.s.wa]),I J y.se,I J y.ti,I J y.rest],.pointer (Q ⟨q+2,0,O⟩),.pointer (Q ⟨q+3,0,O⟩),.pointer (Q ⟨d,0,O⟩),.pointer (Q ⟨f,0,O⟩),I J 0,I J R,.bool true,u9,aB,aC,aD,aE,aF,aG,undef,undef,undef,undef,undef,undef,undef,undef,undef,undef,undef,undef,undef],defers:=[]} V
   intro u9 aB aC aD aE aF aG V bc
   apply hK1
   have l:=zd bc
   have v0:V.cell? ⟨d,0,O⟩=Q (.iface x.jt (.agg #[I J x.s.t,I J x.s.sr,I J x.s.wa])):=((ud l).cell (p:=⟨d,0,O⟩) D).trans x0
   have v1:V.cell? ⟨d,1,O⟩=Q (I J x.se):=((ud l).cell (p:=⟨d,1,O⟩) D).trans x1
   have v2:V.cell? ⟨d,2,O⟩=Q (I J x.ti):=((ud l).cell (p:=⟨d,2,O⟩) D).trans x2
   have v3:V.cell? ⟨d,3,O⟩=Q (I J x.rest):=((ud l).cell (p:=⟨d,3,O⟩) D).trans x3
   have v4:V.cell? ⟨f,0,O⟩=Q (.iface y.jt (.agg #[I J y.s.t,I J y.s.sr,I J y.s.wa])):=((ud l).cell (p:=⟨f,0,O⟩) G).trans x4
   have v5:V.cell? ⟨f,1,O⟩=Q (I J y.se):=((ud l).cell (p:=⟨f,1,O⟩) G).trans x5
   have v6:V.cell? ⟨f,2,O⟩=Q (I J y.ti):=((ud l).cell (p:=⟨f,2,O⟩) G).trans x6
   have v7:V.cell? ⟨f,3,O⟩=Q (I J y.rest):=((ud l).cell (p:=⟨f,3,O⟩) G).trans x7
   have v8:V.cell? ⟨q+3,0,O⟩=Q (.func (.func 160) #[] #[.pointer (Q ⟨q,0,O⟩),.pointer (Q ⟨q+1,0,O⟩)]):=((ud l).cell (p:=⟨q+3,0,O⟩) ax).trans x8
   have P:=E D (ud l).size
   have T:=E G (ud l).size
   have aw:=E ax (ud l).size
   have aY:=E aZ (ud l).size
   have b6:=E b7 (ud l).size
   clear bc hK1 aI aJ aH mx my ex ey x0 x1 x2 x3 x4 x5 x6 x7 x8
   go_wp2_with fail
   have af:=ud aj V (ud l) (U _)
   have ag:=ud aj V.drew (ud l).drew (U _)
   go_region_held3 (fun w'=>w'.cell? ⟨d,0,O⟩=Q (.iface x.jt (.agg #[I J x.s.t,I J x.s.sr,I J x.s.wa]))/\w'.cell? ⟨d,1,O⟩=Q (I J x.se)/\w'.cell? ⟨d,2,O⟩=Q (I J x.ti)/\w'.cell? ⟨d,3,O⟩=Q (I J x.rest)/\w'.cell? ⟨f,0,O⟩=Q (.iface y.jt (.agg #[I J y.s.t,I J y.s.sr,I J y.s.wa]))/\w'.cell? ⟨f,1,O⟩=Q (I J y.se)/\w'.cell? ⟨f,2,O⟩=Q (I J y.ti)/\w'.cell? ⟨f,3,O⟩=Q (I J y.rest)/\w'.cell? ⟨q+3,0,O⟩=Q (.func (.func 160) #[] #[.pointer (Q ⟨q,0,O⟩),.pointer (Q ⟨q+1,0,O⟩)])) (go_keep) (first
    |(go_at_call 160;(first|(with_reducible refine(ud af).mono ?_)|(with_reducible refine(ud ag).mono ?_));rintro e z ⟨rfl,m⟩;have g:Z V.1.size V z:=⟨m.os,m.tape,m.output,m.size,m.block⟩;clear m;have a0:z.cell? ⟨d,0,O⟩=Q (.iface x.jt (.agg #[I J x.s.t,I J x.s.sr,I J x.s.wa])):=(g.cell (p:=⟨d,0,O⟩) P).trans v0;have a1:z.cell? ⟨d,1,O⟩=Q (I J x.se):=(g.cell (p:=⟨d,1,O⟩) P).trans v1;have a2:z.cell? ⟨d,2,O⟩=Q (I J x.ti):=(g.cell (p:=⟨d,2,O⟩) P).trans v2;have a3:z.cell? ⟨d,3,O⟩=Q (I J x.rest):=(g.cell (p:=⟨d,3,O⟩) P).trans v3;have a4:z.cell? ⟨f,0,O⟩=Q (.iface y.jt (.agg #[I J y.s.t,I J y.s.sr,I J y.s.wa])):=(g.cell (p:=⟨f,0,O⟩) T).trans v4;have a5:z.cell? ⟨f,1,O⟩=Q (I J y.se):=(g.cell (p:=⟨f,1,O⟩) T).trans v5;have a6:z.cell? ⟨f,2,O⟩=Q (I J y.ti):=(g.cell (p:=⟨f,2,O⟩) T).trans v6;have a7:z.cell? ⟨f,3,O⟩=Q (I J y.rest):=(g.cell (p:=⟨f,3,O⟩) T).trans v7;have a8:z.cell? ⟨q+3,0,O⟩=Q (.func (.func 160) #[] #[.pointer (Q ⟨q,0,O⟩),.pointer (Q ⟨q+1,0,O⟩)]):=(g.cell (p:=⟨q+3,0,O⟩) aw).trans v8;have A:=E P g.size;have B:=E T g.size;have au:=E aw g.size;have aW:=E aY g.size;have b4:=E b6 g.size;have ah:=ud ak z ((ud l).trans (g.mono (ud l).size)) (U _);have ai:=ud ak z.drew ((ud l).trans (g.mono (ud l).size)).drew (U _);have ao:=zd ((ud l).trans (g.mono (ud l).size));clear g af ag)
    |(go_at_call 160;(first|(with_reducible refine(ud ah).mono ?_)|(with_reducible refine(ud ai).mono ?_));rintro e H ⟨rfl,o⟩;have i:Z z.1.size z H:=⟨o.os,o.tape,o.output,o.size,o.block⟩;clear o;have c0:H.cell? ⟨d,0,O⟩=Q (.iface x.jt (.agg #[I J x.s.t,I J x.s.sr,I J x.s.wa])):=(i.cell (p:=⟨d,0,O⟩) A).trans a0;have c1:H.cell? ⟨d,1,O⟩=Q (I J x.se):=(i.cell (p:=⟨d,1,O⟩) A).trans a1;have c2:H.cell? ⟨d,2,O⟩=Q (I J x.ti):=(i.cell (p:=⟨d,2,O⟩) A).trans a2;have c3:H.cell? ⟨d,3,O⟩=Q (I J x.rest):=(i.cell (p:=⟨d,3,O⟩) A).trans a3;have c4:H.cell? ⟨f,0,O⟩=Q (.iface y.jt (.agg #[I J y.s.t,I J y.s.sr,I J y.s.wa])):=(i.cell (p:=⟨f,0,O⟩) B).trans a4;have c5:H.cell? ⟨f,1,O⟩=Q (I J y.se):=(i.cell (p:=⟨f,1,O⟩) B).trans a5;have c6:H.cell? ⟨f,2,O⟩=Q (I J y.ti):=(i.cell (p:=⟨f,2,O⟩) B).trans a6;have c7:H.cell? ⟨f,3,O⟩=Q (I J y.rest):=(i.cell (p:=⟨f,3,O⟩) B).trans a7;have c8:H.cell? ⟨q+3,0,O⟩=Q (.func (.func 160) #[] #[.pointer (Q ⟨q,0,O⟩),.pointer (Q ⟨q+1,0,O⟩)]):=(i.cell (p:=⟨q+3,0,O⟩) au).trans a8;have L:=E A i.size;have M:=E B i.size;have av:=E au i.size;have aX:=E aW i.size;have b5:=E b4 i.size;have ap:=zd ((ud ao).trans (i.mono (ud ao).size));clear i ah ai)
    |(go_at_call 162;(with_reducible refine(ud (az _)).mono ?_);rintro e V9 ⟨rfl,h9⟩;have aq:=h9.symm;subst aq)
    |(go_at_call 106;(with_reducible refine(ud (ay _)).mono ?_);rintro e u ⟨rfl,r⟩;have j:Z H.1.size H u:=⟨r.os,r.tape,r.output,r.size,r.block⟩;clear r;have d0:u.cell? ⟨d,0,O⟩=Q (.iface x.jt (.agg #[I J x.s.t,I J x.s.sr,I J x.s.wa])):=(j.cell (p:=⟨d,0,O⟩) L).trans c0;have d1:u.cell? ⟨d,1,O⟩=Q (I J x.se):=(j.cell (p:=⟨d,1,O⟩) L).trans c1;have d2:u.cell? ⟨d,2,O⟩=Q (I J x.ti):=(j.cell (p:=⟨d,2,O⟩) L).trans c2;have d3:u.cell? ⟨d,3,O⟩=Q (I J x.rest):=(j.cell (p:=⟨d,3,O⟩) L).trans c3;have d4:u.cell? ⟨f,0,O⟩=Q (.iface y.jt (.agg #[I J y.s.t,I J y.s.sr,I J y.s.wa])):=(j.cell (p:=⟨f,0,O⟩) M).trans c4;have d5:u.cell? ⟨f,1,O⟩=Q (I J y.se):=(j.cell (p:=⟨f,1,O⟩) M).trans c5;have d6:u.cell? ⟨f,2,O⟩=Q (I J y.ti):=(j.cell (p:=⟨f,2,O⟩) M).trans c6;have d7:u.cell? ⟨f,3,O⟩=Q (I J y.rest):=(j.cell (p:=⟨f,3,O⟩) M).trans c7;have d8:u.cell? ⟨q+3,0,O⟩=Q (.func (.func 160) #[] #[.pointer (Q ⟨q,0,O⟩),.pointer (Q ⟨q+1,0,O⟩)]):=(j.cell (p:=⟨q+3,0,O⟩) av).trans c8;have bi:=E L j.size;have bj:=E M j.size;have bk:=E av j.size;have bl:=E aX j.size;have bm:=E b5 j.size;have aK:=ac u (u.alloc (.cells #[I J R,I J CP,I J BK] 3)) (zm _ _);have aL:=ac u (u.alloc (.cells #[I J R,I J CP,I J BK] 3)).drew (zm _ _);have aM:=ac u (u.drew.alloc (.cells #[I J R,I J CP,I J BK] 3)) (zm u.drew _);have aO:=zd ((ud ap).trans (j.mono (ud ap).size));clear j ac)
    |(go_at_call 163;(first|(with_reducible refine(ud aK).mono ?_)|(with_reducible refine(ud aL).mono ?_)|(with_reducible refine(ud aM).mono ?_));rintro e V8 ⟨rfl,rfl⟩))
   go_wp2_with fail
   go_ret
   have h3:=ud aO
   exact⟨by rw[ud aN];rfl,by rw[aU];first|exact((ud al).trans ((h3.mono (ud C)).alloc (N (ud C) h3.size) _)).drew|exact(ud al).trans ((h3.mono (ud C)).alloc (N (ud C) h3.size) _)|exact(ud al).trans ((h3.mono (ud C)).drew.alloc (N (ud C) h3.size) _)⟩
  clear hK1 ac ay az aj ak aN
  go_region_held3 (fun w'=>w'.cell? ⟨d,0,O⟩=Q (.iface x.jt (.agg #[I J x.s.t,I J x.s.sr,I J x.s.wa]))/\w'.cell? ⟨f,0,O⟩=Q (.iface y.jt (.agg #[I J y.s.t,I J y.s.sr,I J y.s.wa]))) (go_keep) (first
   |((with_reducible refine(ud (aJ _)).mono ?_);rintro e Y1 ⟨rfl,aa⟩;have am:Z X.1.size X Y1:=⟨aa.os,aa.tape,aa.output,aa.size,aa.block⟩;clear aa;have a0:=(am.cell (p:=⟨d,0,O⟩) D).trans x0;have a4:=(am.cell (p:=⟨f,0,O⟩) G).trans x4;have A:=E D am.size;have B:=E G am.size;have ba:=zd am;clear am aJ)
   |((with_reducible refine(ud (aI _)).mono ?_);rintro e Y2 ⟨rfl,ab⟩;have an:Z Y1.1.size Y1 Y2:=⟨ab.os,ab.tape,ab.output,ab.size,ab.block⟩;clear ab;have c0:=(an.cell (p:=⟨d,0,O⟩) A).trans a0;have c4:=(an.cell (p:=⟨f,0,O⟩) B).trans a4;have L:=E A an.size;have M:=E B an.size;have bb:=zd ((ud ba).trans (an.mono (ud ba).size));clear an aI)
   |(go_at_call 162;(with_reducible refine(ud (aH _)).mono ?_);rintro e V9 ⟨rfl,h9⟩;have aq:=h9.symm;subst aq))
  all_goals show K1 _ _
  all_goals first|exact ud b9 _ _ _ _ _ _ _ _ (ud bb)|exact ud b9 _ _ _ _ _ _ _ _ (ud bb).drew
end Go.Proofs.YtndhpgciopcncaaGreatDoor
