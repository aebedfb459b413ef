import Derived.Test.YtndhpgciopcncaaGreatDoorHRef9
import Derived.Test.YtndhpgciopcncaaGreatDoorHKit0
open Nat renaming le_refl → Q
open Option renaming some → Y
open Go renaming Value → Z
open Go.RowKit.Below renaming refl → X
open Go.RowKit renaming Below → G
open Go renaming World → R
set_option linter.unusedVariables false
set_option maxRecDepth 100000
set_option maxHeartbeats 2000000
open Go.Proofs.Tryz
namespace Go.Proofs.YtndhpgciopcncaaGreatDoor
open Go.ChangeMaps (setBlock)
open Go.RowKit Go.Maps Go.Shelf
variable {es:Array MapEntry} {lb:Array Z} {L:LV} {S:List SX->Prop} {e:MapEntry} {B N clock g m n n':Nat} {ex:Nat->Prop} {P:Program} {A W W' w w':R}
attribute [local go_sem] Oper.semAt_some
structure Lse where
 kd:Int
 s:Sg
 slot:Int
 til:Int
structure Tsk where
 rl:Bool
 s:Sg
 se:Int
 ti:Int
 rest:Int
def Tsk.jt(x:Tsk):TypeId:=if x.rl then 195 else 197
abbrev jZz(x:Tsk):Z:=.iface x.jt (.agg #[I x.s.t,I x.s.sr,I x.s.wn])
abbrev tZz(x:Tsk):Array Z:=#[jZz x,I x.se,I x.ti,I x.rest]
abbrev lZz(x:Lse):Array Z:=#[I x.kd,I x.s.t,I x.s.sr,I x.s.wn,I x.slot,I x.til]
theorem zfE(h:G W.1.size W W'):W.grownBy W' none:=⟨h.os,h.tape,h.output,h.size,fun k a _=>h.block k a⟩
theorem zN{β:Type}{J:β->R->Prop}(h:OwnFrom B J){s:β}(b:J s W)(a:G W.1.size W W'):J s W':=h s W W' none b (zfE a) (fun r e=>by cases e)
theorem yC{α:Type}{p:α->Bool}{l:List α}{x:α}(h:p x=true):(l++[x]).filter p=l.filter p++[x]:=by simp[h]
theorem yk{α:Type}{p:α->Bool}{l:List α}{x:α}(h:p x=false):(l++[x]).filter p=l.filter p:=by simp[h]
theorem yK{α:Type}(p:α->Bool)(l:List α):(l.filter p).length<=l.length:=List.length_filter_le _ _
theorem qC{B:R}(h:KX ex n m A B){k:Nat}{o:Obj}(a:A.1[k]?=Y o)(b:k<n)(c:¬ex k):B.1[k]?=Y o:=(h.low b c (zd a)).trans a
theorem zo(h:G W.1.size W W'):KeepsFrom B W W':=(yF h).from B
theorem zkd(gf:Nat)(lb:Array Z)(eg:∀args w,(callFunc gf args).run prog w=.ok (.enter gf args) w)(hf:Nat)(af hc:Array Z)(eh:∀args w,(callFunc hf args).run prog w=.ok (.enter hf args) w)(p:SX->Bool)(Bl Bh:Nat)(w:R)(hn:n<=w.1.size)(aE:Bl<n/\¬ex Bl)(ah:Bh<n/\¬ex Bh)(c1:w.1[Bl]?=Y (.cells #[.func (.func gf) #[] lb] 150 (0,0)))(c2:w.1[Bh]?=Y (.cells #[.func (.func hf) af hc] 158 (0,0)))(ai:∀(x:SX) (W:R),(∃m,KX ex n m w W)->Calls prog hf (af++#[.agg (xZz x)]++hc) W fun e W'=>e=.returned (.bool (p x))/\G W.1.size W W')(H:jx ex n prog gf lb (fun x:SX=>#[.agg (xZz x)]) S N w):
  jx ex n prog 225 #[(O Bl),(O Bh)] (fun x:SX=>#[.agg (xZz x)]) (fun ys=>∃xs,S xs/\ys=xs.filter p) N w:=by
 intro m hm l J Jx W0 hW aH hJ ac hY h0;have d1:=(hW.block Bl (zd c1)).trans c1;have d2:=(hW.block Bh (zd c2)).trans c2;obtain⟨e1,-⟩:=zc d1;have aG:=zd d1;have ak:=hW.size;have au:=ze ai;have a8:=ze H;have aq:=ze eg;have ar:=ze eh;have ap:=ze c2;have HJ:=ze hJ;have a5:=ze ac;have HY:=ze hY;have a:G W0.1.size W0 (W0.alloc (.cells #[.func (.yield l) #[] #[]] 158)):=(X _ _).alloc (Q _) _;have an:=zq W0 (.cells #[.func (.yield l) #[] #[]] 158);have aj:=zM W0 (.cells #[.func (.yield l) #[] #[]] 158);have u:=zN hJ h0 a;have ag:KX ex n m w (W0.alloc (.cells #[.func (.yield l) #[] #[]] 158)):=KX.of_below (hW.trans (a.mono ak));have ae:=hW.trans (a.mono ak);have HB:=ze ae;have a6:=ze ag;have aa:=ze an;have a9:=ze aj;have a4:=ze u;clear ai H eg eh hJ ac hY h0 d1 d2 a an aj u ag c2 ae;refine callsIn_wide.2 ((callsIn_wide (n:=7)).1 ?_);refine callsIn_of_wp_marks func225 rfl trivial ?_ rfl;simp only[ntmps225,sZz,Nat.reduceAdd,Nat.reduceSub];gi_wp2;obtain⟨t,ad⟩:∃t,(W0.alloc (.cells #[.func (.yield l) #[] #[]] 158))=t:=⟨_,rfl⟩;rw[ad]at a6 aa a9 a4 HB ⊢;clear ad;have hz:t.1.size=W0.1.size+1:=ud a9;refine yg (F:=Fence.wide) (n:=7) rfl (by omega) (gf:=gf) (lb:=lb) rfl trivial (ud aq) (ud a8 (t.1.size+2) (by omega)) (Q _) (fun h k=>h.trans k) (fun W o o' h hc hw=>KX.putObj o' (by omega) (by omega) h hw) (ud HB) (fun _=>rfl)
  (fun g W=>J (g.filter p) W/\KX ex n (t.1.size+2) w W/\W.1[W0.1.size]?=Y (.cells #[.func (.yield l) #[] #[]] 158 (0,0)))
  (fun c g W=>c=.ret/\∃q,Jx q W)
  (fun s A B row E U j=>⟨ud HJ _ A B row E.1 U (fun r e=>⟨by have:=(j r e).1;omega,(j r e).2⟩),KX.own (β:=Unit) (q:=t.1.size) (by omega) () A B row E.2.1 U j,zv E.2.2 U (fun r e=>(j r e).2)⟩)
  (fun c s A B row E U j=>⟨E.1,by obtain⟨q,hq⟩:=E.2;exact⟨q,ud a5 q A B row hq U (fun r e=>⟨by have:=(j r e).1;omega,(j r e).2⟩)⟩⟩)
  ⟨ud a4,(ud a6).wider (by omega),ud aa⟩
  (fun x a' W=>∃Bx,t.1.size<=Bx/\W.1[Bx]?=Y (.cells (xZz x) 148 (0,0))/\a'={tmps:=#[.func (.yield l) #[] #[],(O Bl),(O Bh),(O W0.1.size),(O Bx),.func (.func gf) #[] lb,.agg (xZz x),undef,undef,undef,undef,undef,undef,undef,undef,undef],defers:=[]})
  (fun x a' s A B row E U j=>by
   obtain⟨Bx,h1,h2,h3⟩:=E;exact⟨Bx,h1,zv h2 U (fun r e=>(j r e).2),h3⟩) ?assign ?body ?done ?stop
 case assign=>
  rintro l' g x W K ⟨i1,i2,i3⟩ C;have ay:=zd i3;have az:=i2.kept.size;have HK:=ze C;clear C;gi_wp2;have v:=(X W.1.size W).alloc (Q _) (.cells (xZz x) 148);refine ud HK _ _ (zo v) (KX.of_below v) ⟨zN (ud HJ) i1 v,i2.trans (KX.of_below v),(v.block _ ay).trans i3⟩ ⟨W.1.size,by omega,zq _ _,rfl⟩
 case body=>
  rintro l' g x a' W hl ⟨r,j⟩ ⟨i1,i2,i3⟩ ⟨Bx,aD,hx,rfl⟩ aB;have az:=i2.kept.size;have ax:=zd hx;have ao:=zd i3;have P:=qC i2 (ud ap) ah.1 ah.2;have aA:=zd P;obtain⟨c1,-⟩:=zc P;obtain⟨x0,x1,x2,x3,x4,x5,x6,x7,-⟩:=zc hx;have HC:=ze (ud au x W ⟨_,i2⟩);have a1:=ze i1;have a2:=ze i2;have a3:=ze i3;have HX:=ze hx;have aC:=ze j;have aF:=yK p g;have aw:=ud ar;clear i1 i2 i3 hx j P;obtain⟨bx,T⟩:∃bx,p x=bx:=⟨_,rfl⟩;rw[T]at HC;have a7:=ze T;clear T;cases bx with
  |false=>
   gi_wp2;refine⟨trivial,(CallsIn.inRound l' (callsIn_wide.2 (ud HC))).mono ?_⟩;rintro e W1 ⟨rfl,a⟩;have b:=ze a;clear a;gi_wp2;refine⟨fun _ h=>(by cases h),?_⟩;gi_wp2;exact⟨zo (ud b),KX.of_below (ud b),by rw[yk (ud a7)];exact zN (ud HJ) (ud a1) (ud b),(ud a2).trans (KX.of_below (ud b)),((ud b).block _ ao).trans (ud a3)⟩
  |true=>
   gi_wp2;refine⟨trivial,(CallsIn.inRound l' (callsIn_wide.2 (ud HC))).mono ?_⟩;rintro e W1 ⟨rfl,a⟩;have al:=(a.block _ ax).trans (ud HX);have V:=(a.block _ ao).trans (ud a3);obtain⟨y0,-⟩:=zc V;obtain⟨z0,z1,z2,z3,z4,z5,z6,z7,-⟩:=zc al;have a0:=ze V;have b:=ze a;have u:=zN (ud HJ) (ud a1) a;obtain⟨fn,tmps,assign,body,hy,hR⟩:=vt (m':=4) rfl (ud HY (g.filter p) x W1 u (by omega));have aI:=a.size;clear a al V u;gi_wp2;refine RoundIn.mono (F:=Fence.wide.inRound l') hR ?_;rintro e W2 (⟨rfl,ab,f⟩|⟨rfl,z,f⟩)
   ·have d:KX ex n (t.1.size+2) W W2:=(KX.of_below (ud b)).trans (f.wider (by omega));have y:KeepsFrom t.1.size W W2:=(zo (ud b)).trans (f.from (by omega));have am:=f.high _ _ (by omega) (fun⟨_,_,e⟩=>by cases e) (ud a0);have i:=ze d;have M:=ze y;have av:=ze am;have I:=ze ab;clear d y am ab f;gi_wp2;exact⟨ud M,ud i,by rw[yC (ud a7)];exact ud I,(ud a2).trans (ud i),ud av⟩
   ·have d:KX ex n (t.1.size+2) W W2:=(KX.of_below (ud b)).trans (f.wider (by omega));have y:KeepsFrom t.1.size W W2:=(zo (ud b)).trans (f.from (by omega));have i:=ze d;have M:=ze y;have I:=ze z;clear d y z f;gi_wp2;exact⟨ud M,ud i,rfl,_,ud I⟩
 case done=>
  rintro D xs W hD hS ⟨i1,i2,i3⟩ C;have L:=ze (OwnFrom.putObj (ud HJ) (.deferred none) i1 (by omega) C rfl);clear i1 i2 i3;gi_wp2;refine⟨by simp,.inl ⟨_,_,rfl,run_takeDeferred C,?_⟩⟩;exact⟨_,results_none rfl _ _ _,⟨_,rfl⟩,.inl ⟨_,⟨xs,hS,rfl⟩,ud L⟩⟩
 case stop=>
  rintro D c g W hD hS ⟨rfl,q,hq⟩ C;have L:=ze (OwnFrom.putObj (ud a5) (.deferred none) hq (by omega) C rfl);clear hq;gi_wp2;refine⟨by simp,.inl ⟨_,_,rfl,run_takeDeferred C,?_⟩⟩;exact⟨_,results_none rfl _ _ _,⟨_,rfl⟩,.inr ⟨_,trivial,ud L⟩⟩
theorem ZK{α:Type}(d:α->Sg)(gf:Nat)(lb:Array Z)(eg:∀args w,(callFunc gf args).run prog w=.ok (.enter gf args) w)(hf:Nat)(ah hc:Array Z)(eh:∀args w,(callFunc hf args).run prog w=.ok (.enter hf args) w){S:List α->Prop}(p:α->Bool)(Bl Bh:Nat)(w:R)(hn:n<=w.1.size)(aG:Bl<n/\¬ex Bl)(aj:Bh<n/\¬ex Bh)(c1:w.1[Bl]?=Y (.cells #[.func (.func gf) #[] lb] 199 (0,0)))(c2:w.1[Bh]?=Y (.cells #[.func (.func hf) ah hc] 206 (0,0)))(ak:∀(x:α) (W:R),(∃m,KX ex n m w W)->Calls prog hf (ah++#[.agg #[I (d x).t,I (d x).sr,I (d x).wn]]++hc) W fun e W'=>e=.returned (.bool (p x))/\G W.1.size W W')(M:jx ex n prog gf lb (fun x:α=>#[.agg #[I (d x).t,I (d x).sr,I (d x).wn]]) S N w):
  jx ex n prog 194 #[(O Bl),(O Bh)] (fun x:α=>#[.agg #[I (d x).t,I (d x).sr,I (d x).wn]]) (fun ys=>∃xs,S xs/\ys=xs.filter p) N w:=by
 intro m hm l J Jx W0 hW aJ hJ ae hY h0;have d1:=(hW.block Bl (zd c1)).trans c1;have d2:=(hW.block Bh (zd c2)).trans c2;obtain⟨e1,-⟩:=zc d1;have aI:=zd d1;have am:=hW.size;have aw:=ze ak;have aa:=ze M;have au:=ze eg;have av:=ze eh;have ar:=ze c2;have HJ:=ze hJ;have a7:=ze ae;have HY:=ze hY;have a:G W0.1.size W0 (W0.alloc (.cells #[.func (.yield l) #[] #[]] 206)):=(X _ _).alloc (Q _) _;have ap:=zq W0 (.cells #[.func (.yield l) #[] #[]] 206);have al:=zM W0 (.cells #[.func (.yield l) #[] #[]] 206);have y:=zN hJ h0 a;have ai:KX ex n m w (W0.alloc (.cells #[.func (.yield l) #[] #[]] 206)):=KX.of_below (hW.trans (a.mono am));have ag:=hW.trans (a.mono am);have HB:=ze ag;have a8:=ze ai;have ac:=ze ap;have ab:=ze al;have a6:=ze y;clear ak M eg eh hJ ae hY h0 d1 d2 a ap al y ai c2 ag;refine callsIn_wide.2 ((callsIn_wide (n:=7)).1 ?_);refine callsIn_of_wp_marks func194 rfl trivial ?_ rfl;simp only[ntmps194,sZz,Nat.reduceAdd,Nat.reduceSub];gi_wp2;obtain⟨v,af⟩:∃v,(W0.alloc (.cells #[.func (.yield l) #[] #[]] 206))=v:=⟨_,rfl⟩;rw[af]at a8 ac ab a6 HB ⊢;clear af;have hz:v.1.size=W0.1.size+1:=ud ab;refine yg (F:=Fence.wide) (n:=7) rfl (by omega) (gf:=gf) (lb:=lb) rfl trivial (ud au) (ud aa (v.1.size+2) (by omega)) (Q _) (fun h k=>h.trans k) (fun W o o' h hc hw=>KX.putObj o' (by omega) (by omega) h hw) (ud HB) (fun _=>rfl)
  (fun i W=>J (i.filter p) W/\KX ex n (v.1.size+2) w W/\W.1[W0.1.size]?=Y (.cells #[.func (.yield l) #[] #[]] 206 (0,0)))
  (fun c i W=>c=.ret/\∃q,Jx q W)
  (fun s A B row L hg u=>⟨ud HJ _ A B row L.1 hg (fun r e=>⟨by have:=(u r e).1;omega,(u r e).2⟩),KX.own (β:=Unit) (q:=v.1.size) (by omega) () A B row L.2.1 hg u,zv L.2.2 hg (fun r e=>(u r e).2)⟩)
  (fun c s A B row L hg u=>⟨L.1,by obtain⟨q,hq⟩:=L.2;exact⟨q,ud a7 q A B row hq hg (fun r e=>⟨by have:=(u r e).1;omega,(u r e).2⟩)⟩⟩)
  ⟨ud a6,(ud a8).wider (by omega),ud ac⟩
  (fun x a' W=>∃Bx,v.1.size<=Bx/\W.1[Bx]?=Y (.cells #[I (d x).t,I (d x).sr,I (d x).wn] 146 (0,0))/\a'={tmps:=#[.func (.yield l) #[] #[],(O Bl),(O Bh),(O W0.1.size),(O Bx),.func (.func gf) #[] lb,.agg #[I (d x).t,I (d x).sr,I (d x).wn],undef,undef,undef,undef,undef,undef,undef,undef,undef],defers:=[]})
  (fun x a' s A B row L hg u=>by
   obtain⟨Bx,h1,h2,h3⟩:=L;exact⟨Bx,h1,zv h2 hg (fun r e=>(u r e).2),h3⟩) ?assign ?body ?done ?stop
 case assign=>
  rintro l' i x W K ⟨i1,i2,i3⟩ H;have aA:=zd i3;have aB:=i2.kept.size;have HK:=ze H;clear H;gi_wp2;have z:=(X W.1.size W).alloc (Q _) (.cells #[I (d x).t,I (d x).sr,I (d x).wn] 146);refine ud HK _ _ (zo z) (KX.of_below z) ⟨zN (ud HJ) i1 z,i2.trans (KX.of_below z),(z.block _ aA).trans i3⟩ ⟨W.1.size,by omega,zq _ _,rfl⟩
 case body=>
  rintro l' i x a' W hl ⟨r,u⟩ ⟨i1,i2,i3⟩ ⟨Bx,aF,hx,rfl⟩ aD;have aB:=i2.kept.size;have az:=zd hx;have aq:=zd i3;have V:=qC i2 (ud ar) aj.1 aj.2;have aC:=zd V;obtain⟨c1,-⟩:=zc V;obtain⟨x0,x1,x2,-⟩:=zc hx;have HC:=ze (ud aw x W ⟨_,i2⟩);have a3:=ze i1;have a4:=ze i2;have a5:=ze i3;have HX:=ze hx;have aE:=ze u;have aH:=yK p i;have ay:=ud av;clear i1 i2 i3 hx u V;obtain⟨bx,a0⟩:∃bx,p x=bx:=⟨_,rfl⟩;rw[a0]at HC;have a9:=ze a0;clear a0;cases bx with
  |false=>
   gi_wp2;refine⟨trivial,(CallsIn.inRound l' (callsIn_wide.2 (ud HC))).mono ?_⟩;rintro e W1 ⟨rfl,a⟩;have b:=ze a;clear a;gi_wp2;refine⟨fun _ h=>(by cases h),?_⟩;gi_wp2;exact⟨zo (ud b),KX.of_below (ud b),by rw[yk (ud a9)];exact zN (ud HJ) (ud a3) (ud b),(ud a4).trans (KX.of_below (ud b)),((ud b).block _ aq).trans (ud a5)⟩
  |true=>
   gi_wp2;refine⟨trivial,(CallsIn.inRound l' (callsIn_wide.2 (ud HC))).mono ?_⟩;rintro e W1 ⟨rfl,a⟩;have an:=(a.block _ az).trans (ud HX);have a1:=(a.block _ aq).trans (ud a5);obtain⟨y0,-⟩:=zc a1;obtain⟨z0,z1,z2,-⟩:=zc an;have a2:=ze a1;have b:=ze a;have y:=zN (ud HJ) (ud a3) a;obtain⟨fn,tmps,assign,body,hy,hR⟩:=vt (m':=4) rfl (ud HY (i.filter p) x W1 y (by omega));have aK:=a.size;clear a an a1 y;gi_wp2;refine RoundIn.mono (F:=Fence.wide.inRound l') hR ?_;rintro e W2 (⟨rfl,ad,g⟩|⟨rfl,E,g⟩)
   ·have f:KX ex n (v.1.size+2) W W2:=(KX.of_below (ud b)).trans (g.wider (by omega));have C:KeepsFrom v.1.size W W2:=(zo (ud b)).trans (g.from (by omega));have ao:=g.high _ _ (by omega) (fun⟨_,_,e⟩=>by cases e) (ud a2);have j:=ze f;have U:=ze C;have ax:=ze ao;have P:=ze ad;clear f C ao ad g;gi_wp2;exact⟨ud U,ud j,by rw[yC (ud a9)];exact ud P,(ud a4).trans (ud j),ud ax⟩
   ·have f:KX ex n (v.1.size+2) W W2:=(KX.of_below (ud b)).trans (g.wider (by omega));have C:KeepsFrom v.1.size W W2:=(zo (ud b)).trans (g.from (by omega));have j:=ze f;have U:=ze C;have P:=ze E;clear f C E g;gi_wp2;exact⟨ud U,ud j,rfl,_,ud P⟩
 case done=>
  rintro D xs W hD hS ⟨i1,i2,i3⟩ H;have T:=ze (OwnFrom.putObj (ud HJ) (.deferred none) i1 (by omega) H rfl);clear i1 i2 i3;gi_wp2;refine⟨by simp,.inl ⟨_,_,rfl,run_takeDeferred H,?_⟩⟩;exact⟨_,results_none rfl _ _ _,⟨_,rfl⟩,.inl ⟨_,⟨xs,hS,rfl⟩,ud T⟩⟩
 case stop=>
  rintro D c i W hD hS ⟨rfl,q,hq⟩ H;have T:=ze (OwnFrom.putObj (ud a7) (.deferred none) hq (by omega) H rfl);clear hq;gi_wp2;refine⟨by simp,.inl ⟨_,_,rfl,run_takeDeferred H,?_⟩⟩;exact⟨_,results_none rfl _ _ _,⟨_,rfl⟩,.inr ⟨_,trivial,ud T⟩⟩
theorem zkc(gf:Nat)(lb:Array Z)(eg:∀args w,(callFunc gf args).run prog w=.ok (.enter gf args) w)(hf:Nat)(af hc:Array Z)(eh:∀args w,(callFunc hf args).run prog w=.ok (.enter hf args) w){S:List Lse->Prop}(p:Lse->Bool)(Bl Bh:Nat)(w:R)(hn:n<=w.1.size)(aE:Bl<n/\¬ex Bl)(ah:Bh<n/\¬ex Bh)(c1:w.1[Bl]?=Y (.cells #[.func (.func gf) #[] lb] 166 (0,0)))(c2:w.1[Bh]?=Y (.cells #[.func (.func hf) af hc] 172 (0,0)))(ai:∀(x:Lse) (W:R),(∃m,KX ex n m w W)->Calls prog hf (af++#[.agg (lZz x)]++hc) W fun e W'=>e=.returned (.bool (p x))/\G W.1.size W W')(H:jx ex n prog gf lb (fun x:Lse=>#[.agg (lZz x)]) S N w):
  jx ex n prog 226 #[(O Bl),(O Bh)] (fun x:Lse=>#[.agg (lZz x)]) (fun ys=>∃xs,S xs/\ys=xs.filter p) N w:=by
 intro m hm l J Jx W0 hW aH hJ ac hY h0;have d1:=(hW.block Bl (zd c1)).trans c1;have d2:=(hW.block Bh (zd c2)).trans c2;obtain⟨e1,-⟩:=zc d1;have aG:=zd d1;have ak:=hW.size;have au:=ze ai;have a8:=ze H;have aq:=ze eg;have ar:=ze eh;have ap:=ze c2;have HJ:=ze hJ;have a5:=ze ac;have HY:=ze hY;have a:G W0.1.size W0 (W0.alloc (.cells #[.func (.yield l) #[] #[]] 172)):=(X _ _).alloc (Q _) _;have an:=zq W0 (.cells #[.func (.yield l) #[] #[]] 172);have aj:=zM W0 (.cells #[.func (.yield l) #[] #[]] 172);have u:=zN hJ h0 a;have ag:KX ex n m w (W0.alloc (.cells #[.func (.yield l) #[] #[]] 172)):=KX.of_below (hW.trans (a.mono ak));have ae:=hW.trans (a.mono ak);have HB:=ze ae;have a6:=ze ag;have aa:=ze an;have a9:=ze aj;have a4:=ze u;clear ai H eg eh hJ ac hY h0 d1 d2 a an aj u ag c2 ae;refine callsIn_wide.2 ((callsIn_wide (n:=7)).1 ?_);refine callsIn_of_wp_marks func226 rfl trivial ?_ rfl;simp only[ntmps226,sZz,Nat.reduceAdd,Nat.reduceSub];gi_wp2;obtain⟨t,ad⟩:∃t,(W0.alloc (.cells #[.func (.yield l) #[] #[]] 172))=t:=⟨_,rfl⟩;rw[ad]at a6 aa a9 a4 HB ⊢;clear ad;have hz:t.1.size=W0.1.size+1:=ud a9;refine yg (F:=Fence.wide) (n:=7) rfl (by omega) (gf:=gf) (lb:=lb) rfl trivial (ud aq) (ud a8 (t.1.size+2) (by omega)) (Q _) (fun h k=>h.trans k) (fun W o o' h hc hw=>KX.putObj o' (by omega) (by omega) h hw) (ud HB) (fun _=>rfl)
  (fun g W=>J (g.filter p) W/\KX ex n (t.1.size+2) w W/\W.1[W0.1.size]?=Y (.cells #[.func (.yield l) #[] #[]] 172 (0,0)))
  (fun c g W=>c=.ret/\∃q,Jx q W)
  (fun s A B row E U j=>⟨ud HJ _ A B row E.1 U (fun r e=>⟨by have:=(j r e).1;omega,(j r e).2⟩),KX.own (β:=Unit) (q:=t.1.size) (by omega) () A B row E.2.1 U j,zv E.2.2 U (fun r e=>(j r e).2)⟩)
  (fun c s A B row E U j=>⟨E.1,by obtain⟨q,hq⟩:=E.2;exact⟨q,ud a5 q A B row hq U (fun r e=>⟨by have:=(j r e).1;omega,(j r e).2⟩)⟩⟩)
  ⟨ud a4,(ud a6).wider (by omega),ud aa⟩
  (fun x a' W=>∃Bx,t.1.size<=Bx/\W.1[Bx]?=Y (.cells (lZz x) 164 (0,0))/\a'={tmps:=#[.func (.yield l) #[] #[],(O Bl),(O Bh),(O W0.1.size),(O Bx),.func (.func gf) #[] lb,.agg (lZz x),undef,undef,undef,undef,undef,undef,undef,undef,undef],defers:=[]})
  (fun x a' s A B row E U j=>by
   obtain⟨Bx,h1,h2,h3⟩:=E;exact⟨Bx,h1,zv h2 U (fun r e=>(j r e).2),h3⟩) ?assign ?body ?done ?stop
 case assign=>
  rintro l' g x W K ⟨i1,i2,i3⟩ C;have ay:=zd i3;have az:=i2.kept.size;have HK:=ze C;clear C;gi_wp2;have v:=(X W.1.size W).alloc (Q _) (.cells (lZz x) 164);refine ud HK _ _ (zo v) (KX.of_below v) ⟨zN (ud HJ) i1 v,i2.trans (KX.of_below v),(v.block _ ay).trans i3⟩ ⟨W.1.size,by omega,zq _ _,rfl⟩
 case body=>
  rintro l' g x a' W hl ⟨r,j⟩ ⟨i1,i2,i3⟩ ⟨Bx,aD,hx,rfl⟩ aB;have az:=i2.kept.size;have ax:=zd hx;have ao:=zd i3;have P:=qC i2 (ud ap) ah.1 ah.2;have aA:=zd P;obtain⟨c1,-⟩:=zc P;obtain⟨x0,x1,x2,x3,x4,x5,-⟩:=zc hx;have HC:=ze (ud au x W ⟨_,i2⟩);have a1:=ze i1;have a2:=ze i2;have a3:=ze i3;have HX:=ze hx;have aC:=ze j;have aF:=yK p g;have aw:=ud ar;clear i1 i2 i3 hx j P;obtain⟨bx,T⟩:∃bx,p x=bx:=⟨_,rfl⟩;rw[T]at HC;have a7:=ze T;clear T;cases bx with
  |false=>
   gi_wp2;refine⟨trivial,(CallsIn.inRound l' (callsIn_wide.2 (ud HC))).mono ?_⟩;rintro e W1 ⟨rfl,a⟩;have b:=ze a;clear a;gi_wp2;refine⟨fun _ h=>(by cases h),?_⟩;gi_wp2;exact⟨zo (ud b),KX.of_below (ud b),by rw[yk (ud a7)];exact zN (ud HJ) (ud a1) (ud b),(ud a2).trans (KX.of_below (ud b)),((ud b).block _ ao).trans (ud a3)⟩
  |true=>
   gi_wp2;refine⟨trivial,(CallsIn.inRound l' (callsIn_wide.2 (ud HC))).mono ?_⟩;rintro e W1 ⟨rfl,a⟩;have al:=(a.block _ ax).trans (ud HX);have V:=(a.block _ ao).trans (ud a3);obtain⟨y0,-⟩:=zc V;obtain⟨z0,z1,z2,z3,z4,z5,-⟩:=zc al;have a0:=ze V;have b:=ze a;have u:=zN (ud HJ) (ud a1) a;obtain⟨fn,tmps,assign,body,hy,hR⟩:=vt (m':=4) rfl (ud HY (g.filter p) x W1 u (by omega));have aI:=a.size;clear a al V u;gi_wp2;refine RoundIn.mono (F:=Fence.wide.inRound l') hR ?_;rintro e W2 (⟨rfl,ab,f⟩|⟨rfl,z,f⟩)
   ·have d:KX ex n (t.1.size+2) W W2:=(KX.of_below (ud b)).trans (f.wider (by omega));have y:KeepsFrom t.1.size W W2:=(zo (ud b)).trans (f.from (by omega));have am:=f.high _ _ (by omega) (fun⟨_,_,e⟩=>by cases e) (ud a0);have i:=ze d;have M:=ze y;have av:=ze am;have I:=ze ab;clear d y am ab f;gi_wp2;exact⟨ud M,ud i,by rw[yC (ud a7)];exact ud I,(ud a2).trans (ud i),ud av⟩
   ·have d:KX ex n (t.1.size+2) W W2:=(KX.of_below (ud b)).trans (f.wider (by omega));have y:KeepsFrom t.1.size W W2:=(zo (ud b)).trans (f.from (by omega));have i:=ze d;have M:=ze y;have I:=ze z;clear d y z f;gi_wp2;exact⟨ud M,ud i,rfl,_,ud I⟩
 case done=>
  rintro D xs W hD hS ⟨i1,i2,i3⟩ C;have L:=ze (OwnFrom.putObj (ud HJ) (.deferred none) i1 (by omega) C rfl);clear i1 i2 i3;gi_wp2;refine⟨by simp,.inl ⟨_,_,rfl,run_takeDeferred C,?_⟩⟩;exact⟨_,results_none rfl _ _ _,⟨_,rfl⟩,.inl ⟨_,⟨xs,hS,rfl⟩,ud L⟩⟩
 case stop=>
  rintro D c g W hD hS ⟨rfl,q,hq⟩ C;have L:=ze (OwnFrom.putObj (ud a5) (.deferred none) hq (by omega) C rfl);clear hq;gi_wp2;refine⟨by simp,.inl ⟨_,_,rfl,run_takeDeferred C,?_⟩⟩;exact⟨_,results_none rfl _ _ _,⟨_,rfl⟩,.inr ⟨_,trivial,ud L⟩⟩
theorem zke{α:Type}(a:α->Tsk)(gf:Nat)(lb:Array Z)(eg:∀args w,(callFunc gf args).run prog w=.ok (.enter gf args) w)(hf:Nat)(ah hc:Array Z)(eh:∀args w,(callFunc hf args).run prog w=.ok (.enter hf args) w){S:List α->Prop}(p:α->Bool)(Bl Bh:Nat)(w:R)(hn:n<=w.1.size)(aG:Bl<n/\¬ex Bl)(aj:Bh<n/\¬ex Bh)(c1:w.1[Bl]?=Y (.cells #[.func (.func gf) #[] lb] 174 (0,0)))(c2:w.1[Bh]?=Y (.cells #[.func (.func hf) ah hc] 179 (0,0)))(ak:∀(x:α) (W:R),(∃m,KX ex n m w W)->Calls prog hf (ah++#[.agg #[.iface (a x).jt (.agg #[I (a x).s.t,I (a x).s.sr,I (a x).s.wn]),I (a x).se,I (a x).ti,I (a x).rest]]++hc) W fun e W'=>e=.returned (.bool (p x))/\G W.1.size W W')(M:jx ex n prog gf lb (fun x:α=>#[.agg #[.iface (a x).jt (.agg #[I (a x).s.t,I (a x).s.sr,I (a x).s.wn]),I (a x).se,I (a x).ti,I (a x).rest]]) S N w):
  jx ex n prog 157 #[(O Bl),(O Bh)] (fun x:α=>#[.agg #[.iface (a x).jt (.agg #[I (a x).s.t,I (a x).s.sr,I (a x).s.wn]),I (a x).se,I (a x).ti,I (a x).rest]]) (fun ys=>∃xs,S xs/\ys=xs.filter p) N w:=by
 intro m hm l J Jx W0 hW aJ hJ ae hY h0;have d1:=(hW.block Bl (zd c1)).trans c1;have d2:=(hW.block Bh (zd c2)).trans c2;obtain⟨e1,-⟩:=zc d1;have aI:=zd d1;have am:=hW.size;have aw:=ze ak;have aa:=ze M;have au:=ze eg;have av:=ze eh;have ar:=ze c2;have HJ:=ze hJ;have a7:=ze ae;have HY:=ze hY;have b:G W0.1.size W0 (W0.alloc (.cells #[.func (.yield l) #[] #[]] 179)):=(X _ _).alloc (Q _) _;have ap:=zq W0 (.cells #[.func (.yield l) #[] #[]] 179);have al:=zM W0 (.cells #[.func (.yield l) #[] #[]] 179);have y:=zN hJ h0 b;have ai:KX ex n m w (W0.alloc (.cells #[.func (.yield l) #[] #[]] 179)):=KX.of_below (hW.trans (b.mono am));have ag:=hW.trans (b.mono am);have HB:=ze ag;have a8:=ze ai;have ac:=ze ap;have ab:=ze al;have a6:=ze y;clear ak M eg eh hJ ae hY h0 d1 d2 b ap al y ai c2 ag;refine callsIn_wide.2 ((callsIn_wide (n:=7)).1 ?_);refine callsIn_of_wp_marks func157 rfl trivial ?_ rfl;simp only[ntmps157,sZz,Nat.reduceAdd,Nat.reduceSub];gi_wp2;obtain⟨v,af⟩:∃v,(W0.alloc (.cells #[.func (.yield l) #[] #[]] 179))=v:=⟨_,rfl⟩;rw[af]at a8 ac ab a6 HB ⊢;clear af;have hz:v.1.size=W0.1.size+1:=ud ab;refine yg (F:=Fence.wide) (n:=7) rfl (by omega) (gf:=gf) (lb:=lb) rfl trivial (ud au) (ud aa (v.1.size+2) (by omega)) (Q _) (fun h k=>h.trans k) (fun W o o' h hc hw=>KX.putObj o' (by omega) (by omega) h hw) (ud HB) (fun _=>rfl)
  (fun i W=>J (i.filter p) W/\KX ex n (v.1.size+2) w W/\W.1[W0.1.size]?=Y (.cells #[.func (.yield l) #[] #[]] 179 (0,0)))
  (fun c i W=>c=.ret/\∃q,Jx q W)
  (fun s A B row L hg u=>⟨ud HJ _ A B row L.1 hg (fun r e=>⟨by have:=(u r e).1;omega,(u r e).2⟩),KX.own (β:=Unit) (q:=v.1.size) (by omega) () A B row L.2.1 hg u,zv L.2.2 hg (fun r e=>(u r e).2)⟩)
  (fun c s A B row L hg u=>⟨L.1,by obtain⟨q,hq⟩:=L.2;exact⟨q,ud a7 q A B row hq hg (fun r e=>⟨by have:=(u r e).1;omega,(u r e).2⟩)⟩⟩)
  ⟨ud a6,(ud a8).wider (by omega),ud ac⟩
  (fun x a' W=>∃Bx,v.1.size<=Bx/\W.1[Bx]?=Y (.cells #[.iface (a x).jt (.agg #[I (a x).s.t,I (a x).s.sr,I (a x).s.wn]),I (a x).se,I (a x).ti,I (a x).rest] 177 (0,0))/\a'={tmps:=#[.func (.yield l) #[] #[],(O Bl),(O Bh),(O W0.1.size),(O Bx),.func (.func gf) #[] lb,.agg #[.iface (a x).jt (.agg #[I (a x).s.t,I (a x).s.sr,I (a x).s.wn]),I (a x).se,I (a x).ti,I (a x).rest],undef,undef,undef,undef,undef,undef,undef,undef,undef],defers:=[]})
  (fun x a' s A B row L hg u=>by
   obtain⟨Bx,h1,h2,h3⟩:=L;exact⟨Bx,h1,zv h2 hg (fun r e=>(u r e).2),h3⟩) ?assign ?body ?done ?stop
 case assign=>
  rintro l' i x W K ⟨i1,i2,i3⟩ H;have aA:=zd i3;have aB:=i2.kept.size;have HK:=ze H;clear H;gi_wp2;have z:=(X W.1.size W).alloc (Q _) (.cells #[.iface (a x).jt (.agg #[I (a x).s.t,I (a x).s.sr,I (a x).s.wn]),I (a x).se,I (a x).ti,I (a x).rest] 177);refine ud HK _ _ (zo z) (KX.of_below z) ⟨zN (ud HJ) i1 z,i2.trans (KX.of_below z),(z.block _ aA).trans i3⟩ ⟨W.1.size,by omega,zq _ _,rfl⟩
 case body=>
  rintro l' i x a' W hl ⟨r,u⟩ ⟨i1,i2,i3⟩ ⟨Bx,aF,hx,rfl⟩ aD;have aB:=i2.kept.size;have az:=zd hx;have aq:=zd i3;have V:=qC i2 (ud ar) aj.1 aj.2;have aC:=zd V;obtain⟨c1,-⟩:=zc V;obtain⟨x0,x1,x2,x3,-⟩:=zc hx;have HC:=ze (ud aw x W ⟨_,i2⟩);have a3:=ze i1;have a4:=ze i2;have a5:=ze i3;have HX:=ze hx;have aE:=ze u;have aH:=yK p i;have ay:=ud av;clear i1 i2 i3 hx u V;obtain⟨bx,a0⟩:∃bx,p x=bx:=⟨_,rfl⟩;rw[a0]at HC;have a9:=ze a0;clear a0;cases bx with
  |false=>
   gi_wp2;refine⟨trivial,(CallsIn.inRound l' (callsIn_wide.2 (ud HC))).mono ?_⟩;rintro e W1 ⟨rfl,b⟩;have d:=ze b;clear b;gi_wp2;refine⟨fun _ h=>(by cases h),?_⟩;gi_wp2;exact⟨zo (ud d),KX.of_below (ud d),by rw[yk (ud a9)];exact zN (ud HJ) (ud a3) (ud d),(ud a4).trans (KX.of_below (ud d)),((ud d).block _ aq).trans (ud a5)⟩
  |true=>
   gi_wp2;refine⟨trivial,(CallsIn.inRound l' (callsIn_wide.2 (ud HC))).mono ?_⟩;rintro e W1 ⟨rfl,b⟩;have an:=(b.block _ az).trans (ud HX);have a1:=(b.block _ aq).trans (ud a5);obtain⟨y0,-⟩:=zc a1;obtain⟨z0,z1,z2,z3,-⟩:=zc an;have a2:=ze a1;have d:=ze b;have y:=zN (ud HJ) (ud a3) b;obtain⟨fn,tmps,assign,body,hy,hR⟩:=vt (m':=4) rfl (ud HY (i.filter p) x W1 y (by omega));have aK:=b.size;clear b an a1 y;gi_wp2;refine RoundIn.mono (F:=Fence.wide.inRound l') hR ?_;rintro e W2 (⟨rfl,ad,g⟩|⟨rfl,E,g⟩)
   ·have f:KX ex n (v.1.size+2) W W2:=(KX.of_below (ud d)).trans (g.wider (by omega));have C:KeepsFrom v.1.size W W2:=(zo (ud d)).trans (g.from (by omega));have ao:=g.high _ _ (by omega) (fun⟨_,_,e⟩=>by cases e) (ud a2);have j:=ze f;have U:=ze C;have ax:=ze ao;have P:=ze ad;clear f C ao ad g;gi_wp2;exact⟨ud U,ud j,by rw[yC (ud a9)];exact ud P,(ud a4).trans (ud j),ud ax⟩
   ·have f:KX ex n (v.1.size+2) W W2:=(KX.of_below (ud d)).trans (g.wider (by omega));have C:KeepsFrom v.1.size W W2:=(zo (ud d)).trans (g.from (by omega));have j:=ze f;have U:=ze C;have P:=ze E;clear f C E g;gi_wp2;exact⟨ud U,ud j,rfl,_,ud P⟩
 case done=>
  rintro D xs W hD hS ⟨i1,i2,i3⟩ H;have T:=ze (OwnFrom.putObj (ud HJ) (.deferred none) i1 (by omega) H rfl);clear i1 i2 i3;gi_wp2;refine⟨by simp,.inl ⟨_,_,rfl,run_takeDeferred H,?_⟩⟩;exact⟨_,results_none rfl _ _ _,⟨_,rfl⟩,.inl ⟨_,⟨xs,hS,rfl⟩,ud T⟩⟩
 case stop=>
  rintro D c i W hD hS ⟨rfl,q,hq⟩ H;have T:=ze (OwnFrom.putObj (ud a7) (.deferred none) hq (by omega) H rfl);clear hq;gi_wp2;refine⟨by simp,.inl ⟨_,_,rfl,run_takeDeferred H,?_⟩⟩;exact⟨_,results_none rfl _ _ _,⟨_,rfl⟩,.inr ⟨_,trivial,ud T⟩⟩
structure Jk where
 kd:Int
 s:Sg
deriving DecidableEq
structure Tok where
 ep:Int
 num:Int
deriving DecidableEq
def Jk.wf(k:Jk):Prop:=xz k.kd/\k.s.wf
def Tok.wf(k:Tok):Prop:=xz k.ep/\xz k.num
def JO(k:Jk):Z:=.agg #[I k.kd,I k.s.t,I k.s.sr,I k.s.wn]
def yB(k:Tok):Z:=.agg #[I k.ep,I k.num]
def vC(x:Lse):Z:=.agg (lZz x)
def Ql(x:Tsk):Z:=.agg (tZz x)
theorem zqK:(162:TypeId)<prog.types.size:=of_decide_eq_true (by kernel_rfl)
theorem zqJ:Keyed prog 162:=Keyed.of_law (deep_law_laid Tryz.laidOut (m:=3) (Nat.le_of_ble_eq_true rfl) zqK (by kernel_rfl) (by kernel_rfl))
theorem zqn:(49:TypeId)<prog.types.size:=of_decide_eq_true (by kernel_rfl)
theorem zqm:Keyed prog 49:=Keyed.of_law (deep_law_laid Tryz.laidOut (m:=2) (Nat.le_of_ble_eq_true rfl) zqn (by kernel_rfl) (by kernel_rfl))
theorem zes:prog.cellsOf 162=4:=by kernel_rfl
theorem zcw:prog.cellsOf 49=2:=by kernel_rfl
theorem zoj:prog.keyType 162=true:=by kernel_rfl
theorem zmx:prog.keyType 49=true:=by kernel_rfl
theorem zpM{a b:Jk}(h:JO a=JO b):a=b:=by
 unfold JO at h;injection h with h;injection h with h;injection h with c h;injection h with d h;injection h with e h;injection h with f h;injection c with _ c;injection d with _ d;injection e with _ e;injection f with _ f;obtain⟨_,_,_,_⟩:=a;obtain⟨_,_,_,_⟩:=b;simp at*;exact⟨c,d,e,f⟩
theorem zjV{a b:Tok}(h:yB a=yB b):a=b:=by
 unfold yB at h;injection h with h;injection h with h;injection h with c h;injection h with d h;injection c with _ c;injection d with _ d;cases a;cases b;simp at*;exact⟨c,d⟩
theorem zbw:∃m,prog.types.size=m+2:=by
 have h:1<prog.types.size:=of_decide_eq_true (by kernel_rfl);exact⟨prog.types.size-2,by omega⟩
theorem zpN{k:Jk}(h:k.wf):∃l,keyOf prog 162 (JO k)=Y l:=by
 obtain⟨m,j⟩:=zbw;obtain⟨b,c,d,e⟩:=h;have f:(JO k).formed prog 162=true:=by
  simp[Value.formed,JO,underlying162,zes]
 unfold keyOf;simp only[underlying162,zoj,f,Bool.and_self,if_true];have:∃ls,prog.keyLits (prog.types.size+1) 162 (JO k).cells.toList=Y ls:=by
  rw[j];simp[Program.keyLits,underlying162,underlying146,underlying3,JO,Value.cells,zes,Ko,Kj,zmC b,zmC c,zmC d,zmC e];rw[if_pos (fun i g=>by match i,g with|0,_=>simp|1,_=>simp|2,_=>simp)]
  exact⟨_,rfl⟩
 obtain⟨ls,a⟩:=this;exact⟨_,by rw[a];rfl⟩
theorem zoZ{k:Tok}(h:k.wf):∃f,keyOf prog 49 (yB k)=Y f:=by
 obtain⟨m,e⟩:=zbw;obtain⟨b,c⟩:=h;have d:(yB k).formed prog 49=true:=by
  simp[Value.formed,yB,underlying49,zcw]
 unfold keyOf;simp only[underlying49,zmx,d,Bool.and_self,if_true];have:∃ls,prog.keyLits (prog.types.size+1) 49 (yB k).cells.toList=Y ls:=by
  rw[e];simp[Program.keyLits,underlying49,underlying3,yB,Value.cells,zcw,Kj,zmC b,zmC c]
 obtain⟨ls,a⟩:=this;exact⟨_,by rw[a];rfl⟩
noncomputable def jA:MK Sg Unit:={P:=prog,T:=153,K:=146,E:=257,ke:=kR,ve:=fun _=> .agg #[],wf:=Sg.wf,z:=.agg #[]}
noncomputable def qi:MK Jk Tsk:={P:=prog,T:=169,K:=162,E:=177,ke:=JO,ve:=Ql,wf:=Jk.wf,z:=.agg #[.nilIface,I 0,I 0,I 0]}
noncomputable def xJ:MK Tok Lse:={P:=prog,T:=168,K:=49,E:=164,ke:=yB,ve:=vC,wf:=Tok.wf,z:=.agg #[I 0,I 0,I 0,I 0,I 0,I 0]}
theorem Xr:jA.Ok:=⟨Q8,underlying153,fun a h=>zcl h,fun a b h=>zeT h,fun w=>by kernel_rfl⟩
theorem k8:qi.Ok:=⟨zqJ,underlying169,fun a h=>zpN h,fun a b h=>zpM h,fun w=>by kernel_rfl⟩
theorem yx:xJ.Ok:=⟨zqm,underlying168,fun a h=>zoZ h,fun a b h=>zjV h,fun w=>by kernel_rfl⟩
attribute [local go_sem] Oper.semAt_some
theorem yO{α:Type}{f:α->Int}{a:List α}{x:α}{v:Z}{t t2:TypeId}{u:Z}(j:u=I (wrap64 (vN (a.map f)+f x)))(hn:n<=w.1.size)(e:W.1[w.1.size]?=Y (.cells #[v] t (0,0)))(i2:W.1[w.1.size+1]?=Y (.cells #[I (vN (a.map f))] t2 (0,0)))(i3:G w.1.size w W)(b:G W.1.size W w'):
  KeepsFrom B W (w'.setCell (U (w.1.size+1) 0) u)/\KX ex n (w.1.size+4) W (w'.setCell (U (w.1.size+1) 0) u)/\((w'.setCell (U (w.1.size+1) 0) u).1[w.1.size]?=Y (.cells #[v] t (0,0))/\(w'.setCell (U (w.1.size+1) 0) u).1[w.1.size+1]?=Y (.cells #[I (vN ((a++[x]).map f))] t2 (0,0))/\G w.1.size w (w'.setCell (U (w.1.size+1) 0) u)):=by
 subst j;have c:=zd e;have d:=zd i2;refine⟨((yF b).trans (KeepsOthers.setCell _ _ _)).from _,(KX.of_below b).trans (KX.setCell (by omega) (by omega)),?_,?_,i3.trans ((b.mono i3.size).setCell (p:=(U (w.1.size+1) 0)) (Nat.le_succ _) _)⟩
 ·have g:=(b.block _ c).trans e;exact(((X (w.1.size+1) w').setCell (p:=(U (w.1.size+1) 0)) (Q _) (I (wrap64 (vN (a.map f)+f x)))).block w.1.size (Nat.lt_succ_self _)).trans g
 ·have h:=(b.block _ d).trans i2;rw[List.map_append,List.map_singleton,Qm];exact xD (i:=0) h _
theorem jx.later{α:Type}{encs:α->Array Z}{S:List α->Prop}(h:jx ex n P g lb encs S N w)(a:G w.1.size w w'):jx ex n P g lb encs S N w':=
 fun m d l J b W c=>h m (Nat.le_trans a.size d) l J b W (a.trans (c.mono a.size))
theorem KX.lower{B:R}(h:KX ex n' m A B)(hn:n<=n'):KX ex n m A B:=⟨h.kept.mono (fun k _ e=>e.imp id (fun e=>by omega)),h.walk,h.high⟩
theorem jx.lower{α:Type}{encs:α->Array Z}{S:List α->Prop}(h:jx ex n P g lb encs S N w)(hn:n<=n'):jx ex n' P g lb encs S N w:=
 fun m b=>(h m b).keeps (fun A B a=>a.lower hn)
theorem jx.free{α:Type}{encs:α->Array Z}{S:List α->Prop}(h:jx ex n P g lb encs S N w):jx (fun _=>False) n P g lb encs S N w:=
 fun m b=>(h m b).keeps (fun A B a=>⟨a.kept.mono (fun k _ e=>e.elim (fun e=>e.elim) .inr),fun k o _=>a.walk k o (fun e=>e),a.high⟩)
theorem jN{α:Type}(xs:List α)(h:xs.length<=9223372036854775807):vN (xs.map (fun _=>(1:Int)))=xs.length:=by
 have e:qJ (xs.map (fun _=>(1:Int)))=xs.length:=by
  induction xs with
  |nil=>rfl
  |cons x xs a=>simp only[List.map_cons,qJ,List.length_cons]at*;rw[a (by omega)];omega
 rw[vs (by rw[e];omega),e]
theorem zmm(gf:Nat)(lb:Array Z)(eg:∀args w,(callFunc gf args).run prog w=.ok (.enter gf args) w)(f:SX->Int)(w:R)(hn:n<=w.1.size)(M:∀(x:SX) (W:R),G w.1.size w W->Calls prog 89 #[.agg (xZz x)] W fun e W'=>e=.returned (I (f x))/\G W.1.size W W')(j:jx ex n prog gf lb (fun x:SX=>#[.agg (xZz x)]) S N w):
  Calls prog 87 #[.func (.func gf) #[] lb,.func (.func 89) #[] #[]] w fun e w'=>∃xs,S xs/\e=.returned (I (vN (xs.map f)))/\G w.1.size w w':=by
 have y:=ze M;have z:=ze j;have a1:=ze eg;obtain⟨b1,b2,J,bz⟩:=box2 w (.cells #[.func (.func 89) #[] #[]] 156) Vy;clear M j eg;refine(callsIn_wide (n:=7)).1 ?_;refine callsIn_of_wp_marks func87 rfl trivial ?_ rfl;simp only[ntmps87,sZz,Nat.reduceAdd,Nat.reduceSub];have B1:=ze b1;have B2:=ze b2;have m:=ze J;have BZ:=ze bz;clear b1 b2 J bz;gi_wp2;obtain⟨W0,E⟩:∃W0,((w.alloc (.cells #[.func (.func 89) #[] #[]] 156)).alloc Vy)=W0:=⟨_,rfl⟩;rw[E]at B1 B2 m BZ ⊢;clear E;have hz:W0.1.size=w.1.size+2:=ud BZ;refine yg (F:=Fence.wide) (n:=7) rfl (by omega) (gf:=gf) (lb:=lb) rfl trivial (ud a1) (ud z (w.1.size+4) (by omega)) (by omega) (fun h k=>h.trans k) (fun W o o' h hc hw=>KX.putObj o' (by omega) (by omega) h hw) (ud m) (fun _=>rfl)
  (fun b W=>W.1[w.1.size]?=Y (.cells #[.func (.func 89) #[] #[]] 156 (0,0))/\W.1[w.1.size+1]?=Y (.cells #[I (vN (b.map f))] 3 (0,0))/\G w.1.size w W)
  (fun _ _ _=>False)
  (fun s A B row i L u=>⟨zv i.1 L (fun r e=>(u r e).2),zv i.2.1 L (fun r e=>(u r e).2),i.2.2.grown L (i.2.2.size) (fun k e=>by have:=(u k e).1;omega)⟩)
  (fun _ _ _ _ _ i _ _=>i)
  ⟨ud B1,ud B2,ud m⟩
  (fun x a' W=>∃t,w.1.size+2<=t/\W.1[t]?=Y (.cells (xZz x) 148 (0,0))/\a'={tmps:=#[.func (.func gf) #[] lb,.func (.func 89) #[] #[],undef,(O w.1.size),I 0,(O (w.1.size+1)),(O t),.func (.func gf) #[] lb,.agg (xZz x),undef,undef,undef,undef,undef,undef],defers:=[]})
  (fun x a' s A B row i L u=>by
   obtain⟨t,h1,h2,h3⟩:=i;exact⟨t,h1,zv h2 L (fun r e=>(u r e).2),h3⟩) ?assign ?body ?done ?stop
 case assign=>
  rintro l b x W K ⟨q,i2,i3⟩ C;have T:=i3.size;have a4:=zd i2;have HK:=ze C;clear C;gi_wp2;have H:=(X W.1.size W).alloc (Q _) (.cells (xZz x) 148);refine ud HK _ _ (zo H) (KX.of_below H) ⟨(Below.heap_alloc _ _ _ (by omega)).trans q,(Below.heap_alloc _ _ _ (by omega)).trans i2,i3.alloc T _⟩ ⟨W.1.size,by omega,zq _ _,rfl⟩
 case body=>
  rintro l b x a' W hl ⟨r,u⟩ ⟨q,i2,i3⟩ ⟨t,a2,V,rfl⟩ a5;have T:=i3.size;have a3:=zd V;have P:=zd i2;obtain⟨c1,-⟩:=zc q;obtain⟨c2,-⟩:=zc i2;have f2:W.frozen? (U (w.1.size+1) 0)=false:=zw i2 0;obtain⟨x0,x1,x2,x3,x4,x5,x6,x7,-⟩:=zc V;have HI:=ze i2;have v:=ze q;have d:=ze i3;have HX:=ze V;have a6:prog.follows .mixedOrders=true:=by kernel_rfl
  have HC:=ze (ud y x W i3);have a0:=ze (ud y x W.drew i3.drew);clear q i2 i3 V;gi_wp2
  gi_region_with_o (refine⟨trivial,?_⟩;gi_at_call 89;(first|refine(CallsIn.inRound l (callsIn_wide.2 (ud HC))).mono ?_|refine(CallsIn.inRound l (callsIn_wide.2 (ud a0))).mono ?_);rintro e w' ⟨rfl,g⟩;have d2:Cz w' (w.1.size+1) 0 (I (vN (b.map f))):=(g.cell (p:=(U (w.1.size+1) 0)) P).trans c2;have e2:w'.frozen? (U (w.1.size+1) 0)=false:=zw ((g.block _ P).trans (ud HI)) 0;have a:=ze g;clear g)
  all_goals gi_wp2
  all_goals(try go_bits)
  all_goals(first|(rw[hz];exact yO (x:=x) rfl hn (ud v) (ud HI) (ud d) ⟨(ud a).os,(ud a).tape,(ud a).output,(ud a).size,(ud a).block⟩)|exact yO (x:=x) rfl hn (ud v) (ud HI) (ud d) ⟨(ud a).os,(ud a).tape,(ud a).output,(ud a).size,(ud a).block⟩)
 case done=>
  rintro D xs W hD hS ⟨q,i2,i3⟩ C;obtain⟨c2,-⟩:=zc i2;have d:=ze i3;clear q i2 i3;gi_wp2;refine⟨by simp,.inl ⟨_,_,rfl,run_takeDeferred C,?_⟩⟩;exact⟨_,results_tmp rfl _ _ _,xs,hS,rfl,xE (ud d) (Q _) (by omega) C _⟩
 case stop=>
  rintro D c b W _ _ h _;exact h.elim
noncomputable def yG:MK Sg SX:={P:=prog,T:=152,K:=146,E:=148,ke:=kR,ve:=vk,wf:=Sg.wf,z:=vk zX}
theorem Xx:yG.Ok:=⟨Q8,underlying152,fun a h=>zcl h,fun a b h=>zeT h,fun w=>by kernel_rfl⟩
def vQ(L:LV):List (Sg×SX):=L.map (fun p=>(p.1,p))
theorem VV(L:LV):zk (vQ L)=zn L:=by unfold zk vQ zn;rw[List.map_map];rfl
theorem KF(L:LV):(vQ L).length=L.length:=by simp[vQ]
theorem zbG{q:Sg×SX}(h:q∈vQ L):q.2∈L/\q.1=q.2.1:=by
 obtain⟨p,a,rfl⟩:=List.mem_map.1 h;exact⟨a,rfl⟩
theorem KG{ps:List (Sg×SX)}(h:ps.Perm (vQ L)):(ps.map (fun p:Sg×SX=>p.2)).Perm L:=by
 have:=h.map (fun p:Sg×SX=>p.2);unfold vQ at this;rw[List.map_map]at this;have e:L.map ((fun p:Sg×SX=>p.2)∘fun p=>(p.1,p))=L:=by
  conv=>rhs;rw[<-List.map_id L]
  rfl
 rwa[e]at this
theorem qK{b:Nat}:yI w b L↔xi yG w b (vQ L):=
 ⟨fun⟨es,cl,h,e⟩=>⟨es,cl,h,⟨by rw[e.kv,vQ,List.map_map];rfl,e.born,e.once,fun q c=>by obtain⟨p,a,rfl⟩:=List.mem_map.1 c;exact e.wf p a,by rw[VV];exact e.nodup,e.size⟩⟩,
  fun⟨es,cl,h,e⟩=>⟨es,cl,h,⟨by rw[e.kv,vQ,List.map_map];rfl,e.born,e.once,fun p a=>e.wf (p.1,p) (List.mem_map.2 ⟨p,a,rfl⟩),by rw[<-VV];exact e.nodup,e.size⟩⟩⟩
theorem jx.imp{α:Type}{encs:α->Array Z}{S S':List α->Prop}(h:jx ex n P g lb encs S N w)(p:∀xs,S xs->S' xs):jx ex n P g lb encs S' N w:=fun m q l J j W a b c d e f=>(h m q l J j W a b c d e f).mono (by
 rintro e w ⟨i,⟨xs,k,o⟩|h⟩
 ·exact⟨i,.inl ⟨xs,p _ k,o⟩⟩
 ·exact⟨i,.inr h⟩)
section
variable {α β:Type} [Inhabited α] [Inhabited β] {M:MK α β}
noncomputable def kC (M:MK α β) (L:List (α×β)) (e:MapEntry):α×β:=by
 classical exact if h:∃p∈L,e.key=M.ke p.1/\e.val=M.ve p.2 then h.choose else default
theorem zmL(ok:M.Ok){L:List (α×β)}(hn:(zk L).Nodup){p:α×β}(o:p∈L)(l:e.key=M.ke p.1)(q:e.val=M.ve p.2):kC M L e=p:=by
 unfold kC;have h:∃p∈L,e.key=M.ke p.1/\e.val=M.ve p.2:=⟨p,o,l,q⟩;rw[dif_pos h];obtain⟨s,r,_⟩:=h.choose_spec;have k:h.choose.1=p.1:=ok.inj _ _ (r.symm.trans l);have d:L.Pairwise (fun a b=>a.1≠b.1):=List.pairwise_map.1 hn;obtain⟨i,m,f⟩:=List.getElem_of_mem s;obtain⟨j,n,g⟩:=List.getElem_of_mem o;rcases Nat.lt_trichotomy i j with c|c|c
 ·have:=List.pairwise_iff_getElem.1 d i j m n c;rw[f,g]at this;exact absurd k this
 ·subst c;rw[<-f,g]
 ·have:=List.pairwise_iff_getElem.1 d j i n m c;rw[f,g]at this;exact absurd k.symm this
theorem Xa(ok:M.Ok){L:List (α×β)}(d:jd M es clock L)(h:e∈es.toList):kC M L e∈L/\e.key=M.ke (kC M L e).1/\e.val=M.ve (kC M L e).2:=by
 obtain⟨i,f⟩:=List.mem_iff_getElem?.1 h;obtain⟨p,g,b,c⟩:=d.at f;have a:=List.mem_of_getElem? g;rw[zmL ok d.nodup a b c];exact⟨a,b,c⟩
theorem znQ(ok:M.Ok){L:List (α×β)}(b:jd M es clock L):es.toList.map (kC M L)=L:=by
 apply List.ext_getElem?;intro i;rw[List.getElem?_map];cases h:es.toList[i]? with
 |none=>
  have a:es.toList.length<=i:=List.getElem?_eq_none_iff.1 h;have c:=b.count;rw[List.getElem?_eq_none (by simp at a;omega)];rfl
 |some e=>
  obtain⟨p,d,a,c⟩:=b.at h;rw[d,Option.map_some,zmL ok b.nodup (List.mem_of_getElem? d) a c]
theorem jP(ok:M.Ok){L:List (α×β)}(a:jd M es clock L){ps:List MapEntry}(b:ps.Perm es.toList):(ps.map (kC M L)).Perm L:=by
 have:=b.map (kC M L);rwa[znQ ok a]at this
end
instance:Inhabited SV:=⟨⟨0,qA⟩⟩
instance:Inhabited Lse:=⟨⟨0,⟨0,0,0⟩,0,0⟩⟩
instance:Inhabited Tsk:=⟨⟨true,⟨0,0,0⟩,0,0,0⟩⟩
instance:Inhabited Jk:=⟨⟨0,⟨0,0,0⟩⟩⟩
instance:Inhabited Tok:=⟨⟨0,0⟩⟩
instance:Inhabited Sg:=⟨⟨0,0,0⟩⟩
end Go.Proofs.YtndhpgciopcncaaGreatDoor
