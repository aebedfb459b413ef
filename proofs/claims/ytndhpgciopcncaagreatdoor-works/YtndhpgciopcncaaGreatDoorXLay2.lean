import Derived.Shelf.Strings.LastIndex
import Derived.Test.YtndhpgciopcncaaGreatDoorXCnt0
import Derived.StillTail
import Derived.Sort.Grow
open Option renaming some → E
open Nat renaming le_refl → G
open Go renaming World → z0
open Go renaming Value → z1
open Nat renaming lt_of_lt_of_le → z6
open Option renaming none → z7
open Nat renaming zero_le → za
open Nat renaming le_trans → zb
open Nat renaming le_of_lt → zf
set_option linter.unusedVariables false
set_option maxRecDepth 100000
set_option maxHeartbeats 8000000
open Go.Proofs.Tryz
open Go renaming undef → u_
namespace Go.Proofs
open Go.Shelf
def Tryz.layLI_ren:Go.Shelf.Ren:=⟨fun|149=>132|222=>204|n=>n,fun|9=>9|5=>5|3=>3|4=>4|n=>n,fun|n=>n⟩
theorem Tryz.layLI:Go.Proofs.Lays.n149 prog Tryz.layLI_ren:=by
 constructor
 case f149=>exact func132.trans (congrArg E (by kernel_rfl))
 case f222=>exact func204.trans (congrArg E (by kernel_rfl))
 all_goals(intros;kernel_rfl)
end Go.Proofs
namespace Go.Proofs.YtndhpgciopcncaaGreatDoor
open Go.ChangeMaps (setBlock)
open Go.RowKit Go.Maps Go.Shelf
variable {a:Act} {K:Act->Prop} {K':Act->z0->Prop} {c:Cf} {Q Q':Exit->Act->z0->Prop} {se tm:Int} {L:LV} {Gl:List (Sg×Unit)} {ls:List Oper} {l xs:List SX} {N b base cap g gb i id j k lb n q s size:Nat} {ex:Nat->Prop} {fr:Nat×Nat} {x:SX} {ov tv v:z1} {A B W W' X w w':z0} {Kp:z0->z0->Prop}
attribute [local go_sem] Oper.semAt_some
variable {S Sp:List Cl->Prop}
theorem zoA(gf:Nat)(lb:Array z1)(eg:∀args w,(callFunc gf args).run prog w=.ok (.enter gf args) w)(f:Cl->Int)(w:z0)(R:Zk w.1.size Kp)(V:∀(x:Cl) (W:z0),Below w.1.size w W->Calls prog 191 #[.agg #[I x.cnt,I x.sum,i_ x.mn,i_ x.mx]] W fun e W'=>e=.returned (I (f x))/\Below W.1.size W W')(m:SeqStopsK Fence.wide 6 prog gf lb (fun x:Cl=>#[.agg #[I x.cnt,I x.sum,i_ x.mn,i_ x.mx]]) Kp S Sp N w):
  Calls prog 190 #[.func (.func gf) #[] lb,.func (.func 191) #[] #[]] w fun e w'=>∃xs,S xs/\e=.returned (I (vY (xs.map f)))/\Below w.1.size w w':=by
 have H:=ze V;have J:=ze m;have g:=ze R;have a0:=ze eg;obtain⟨b1,b2,P,bz⟩:=box2 w (.cells #[.func (.func 191) #[] #[]] 270) zkK;clear V m R eg;refine(callsIn_wide (n:=7)).1 ?_;refine callsIn_of_wp_marks func190 rfl trivial ?_ rfl;simp only[ntmps190,sZz,Nat.reduceAdd,Nat.reduceSub];have B1:=ze b1;have B2:=ze b2;have q:=ze P;have BZ:=ze bz;clear b1 b2 P bz;gi_wp2;obtain⟨W0,M⟩:∃W0,((w.alloc (.cells #[.func (.func 191) #[] #[]] 270)).alloc zkK)=W0:=⟨_,rfl⟩;rw[M]at B1 B2 q BZ ⊢;clear M;have hz:W0.1.size=w.1.size+2:=ud BZ;refine wpIn_rangeFunc_ownH (F:=Fence.wide) (n:=7) rfl (by omega) (gf:=gf) (lb:=lb) rfl trivial a0 J g.t (fun W l o o' hl=>g.b W l o o' (by omega)) q (fun _=>rfl)
  (fun d W=>W.1[w.1.size]?=E (.cells #[.func (.func 191) #[] #[]] 270 (0,0))/\W.1[w.1.size+1]?=E (.cells #[I (vY (d.map f))] 3 (0,0))/\Below w.1.size w W)
  (fun _ _ _=>False)
  (fun s A B row j Q z=>⟨zH j.1 Q (fun r e=>(z r e).2),zH j.2.1 Q (fun r e=>(z r e).2),j.2.2.grown Q (j.2.2.size) (fun k e=>by have:=(z k e).1;omega)⟩)
  (fun _ _ _ _ _ j _ _=>j)
  ⟨B1,B2,q⟩
  (fun x a' W=>∃y,w.1.size+2<=y/\W.1[y]?=E (.cells #[I x.cnt,I x.sum,i_ x.mn,i_ x.mx] 115 (0,0))/\a'={tmps:=#[.func (.func gf) #[] lb,.func (.func 191) #[] #[],u_,(O w.1.size),I 0,(O (w.1.size+1)),(O y),.func (.func gf) #[] lb,.agg #[I x.cnt,I x.sum,i_ x.mn,i_ x.mx],u_,u_,u_,u_,u_,u_],defers:=[]})
  (fun x a' s A B row j Q z=>by
   obtain⟨y,h1,h2,h3⟩:=j;exact⟨y,h1,zH h2 Q (fun r e=>(z r e).2),h3⟩) ?assign ?body ?done ?stop
 case assign=>
  rintro l d x W K ⟨i1,i2,i3⟩ L;have v:=i3.size;have a4:=zd i2;have HK:=ze L;clear L;gi_wp2;refine ud HK _ _ ((KeepsOthers.alloc _ _).from _) (g.of _ _ (KeepsOthers.alloc _ _) ((Below.refl _ W).alloc v _)) ⟨(Below.heap_alloc _ _ _ (by omega)).trans i1,(Below.heap_alloc _ _ _ (by omega)).trans i2,i3.alloc v _⟩ ⟨W.1.size,by omega,zo _ _,rfl⟩
 case body=>
  rintro l d x a' W hl ⟨r,z⟩ ⟨i1,i2,i3⟩ ⟨y,a2,Y,rfl⟩ a5;have v:=i3.size;have a3:=zd Y;have X:=zd i2;obtain⟨c1,-⟩:=zc i1;obtain⟨c2,-⟩:=zc i2;have f2:W.frozen? (U (w.1.size+1) 0)=false:=zI i2 0;obtain⟨x0,x1,x2,x3,-⟩:=zc Y;have HI:=ze i2;have a1:=ze i1;have u:=ze i3;have HX:=ze Y;have a6:prog.follows .mixedOrders=true:=by kernel_rfl
  have HC:=ze (ud H x W i3);have Z:=ze (ud H x W.drew i3.drew);clear i1 i2 i3 Y;gi_wp2
  gi_region_with_o (refine⟨trivial,?_⟩;gi_at_call 191;(first|refine(CallsIn.inRound l (callsIn_wide.2 HC)).mono ?_|refine(CallsIn.inRound l (callsIn_wide.2 Z)).mono ?_);rintro e w' ⟨rfl,i⟩;have d2:Cz w' (w.1.size+1) 0 (I (vY (d.map f))):=(i.cell (p:=(U (w.1.size+1) 0)) X).trans c2;have e2:w'.frozen? (U (w.1.size+1) 0)=false:=zI ((i.block _ X).trans HI) 0;have a:=ze i;clear i)
  all_goals gi_wp2
  all_goals(try go_bits)
  all_goals exact zco (x:=x) rfl a1 HI u g ⟨a.os,a.tape,a.output,a.size,a.block⟩
 case done=>
  rintro D xs W hD hS ⟨i1,i2,i3⟩ L;obtain⟨c2,-⟩:=zc i2;have u:=ze i3;clear i1 i2 i3;gi_wp2;refine⟨by simp,.inl ⟨_,_,rfl,run_takeDeferred L,?_⟩⟩;exact⟨_,results_tmp rfl _ _ _,xs,hS,rfl,xG u (G _) (by omega) L _⟩
 case stop=>
  rintro D c d W _ _ h _;exact h.elim
theorem zoB(gf:Nat)(lb:Array z1)(eg:∀args w,(callFunc gf args).run prog w=.ok (.enter gf args) w)(f:Cl->Int)(w:z0)(R:Zk w.1.size Kp)(V:∀(x:Cl) (W:z0),Below w.1.size w W->Calls prog 193 #[.agg #[I x.cnt,I x.sum,i_ x.mn,i_ x.mx]] W fun e W'=>e=.returned (I (f x))/\Below W.1.size W W')(m:SeqStopsK Fence.wide 6 prog gf lb (fun x:Cl=>#[.agg #[I x.cnt,I x.sum,i_ x.mn,i_ x.mx]]) Kp S Sp N w):
  Calls prog 192 #[.func (.func gf) #[] lb,.func (.func 193) #[] #[]] w fun e w'=>∃xs,S xs/\e=.returned (I (vY (xs.map f)))/\Below w.1.size w w':=by
 have H:=ze V;have J:=ze m;have g:=ze R;have a0:=ze eg;obtain⟨b1,b2,P,bz⟩:=box2 w (.cells #[.func (.func 193) #[] #[]] 272) (.cells #[I 0] 2);clear V m R eg;refine(callsIn_wide (n:=7)).1 ?_;refine callsIn_of_wp_marks func192 rfl trivial ?_ rfl;simp only[ntmps192,sZz,Nat.reduceAdd,Nat.reduceSub];have B1:=ze b1;have B2:=ze b2;have q:=ze P;have BZ:=ze bz;clear b1 b2 P bz;gi_wp2;obtain⟨W0,M⟩:∃W0,((w.alloc (.cells #[.func (.func 193) #[] #[]] 272)).alloc (.cells #[I 0] 2))=W0:=⟨_,rfl⟩;rw[M]at B1 B2 q BZ ⊢;clear M;have hz:W0.1.size=w.1.size+2:=ud BZ;refine wpIn_rangeFunc_ownH (F:=Fence.wide) (n:=7) rfl (by omega) (gf:=gf) (lb:=lb) rfl trivial a0 J g.t (fun W l o o' hl=>g.b W l o o' (by omega)) q (fun _=>rfl)
  (fun d W=>W.1[w.1.size]?=E (.cells #[.func (.func 193) #[] #[]] 272 (0,0))/\W.1[w.1.size+1]?=E (.cells #[I (vY (d.map f))] 2 (0,0))/\Below w.1.size w W)
  (fun _ _ _=>False)
  (fun s A B row j Q z=>⟨zH j.1 Q (fun r e=>(z r e).2),zH j.2.1 Q (fun r e=>(z r e).2),j.2.2.grown Q (j.2.2.size) (fun k e=>by have:=(z k e).1;omega)⟩)
  (fun _ _ _ _ _ j _ _=>j)
  ⟨B1,B2,q⟩
  (fun x a' W=>∃y,w.1.size+2<=y/\W.1[y]?=E (.cells #[I x.cnt,I x.sum,i_ x.mn,i_ x.mx] 115 (0,0))/\a'={tmps:=#[.func (.func gf) #[] lb,.func (.func 193) #[] #[],u_,(O w.1.size),I 0,(O (w.1.size+1)),(O y),.func (.func gf) #[] lb,.agg #[I x.cnt,I x.sum,i_ x.mn,i_ x.mx],u_,u_,u_,u_,u_,u_],defers:=[]})
  (fun x a' s A B row j Q z=>by
   obtain⟨y,h1,h2,h3⟩:=j;exact⟨y,h1,zH h2 Q (fun r e=>(z r e).2),h3⟩) ?assign ?body ?done ?stop
 case assign=>
  rintro l d x W K ⟨i1,i2,i3⟩ L;have v:=i3.size;have a4:=zd i2;have HK:=ze L;clear L;gi_wp2;refine ud HK _ _ ((KeepsOthers.alloc _ _).from _) (g.of _ _ (KeepsOthers.alloc _ _) ((Below.refl _ W).alloc v _)) ⟨(Below.heap_alloc _ _ _ (by omega)).trans i1,(Below.heap_alloc _ _ _ (by omega)).trans i2,i3.alloc v _⟩ ⟨W.1.size,by omega,zo _ _,rfl⟩
 case body=>
  rintro l d x a' W hl ⟨r,z⟩ ⟨i1,i2,i3⟩ ⟨y,a2,Y,rfl⟩ a5;have v:=i3.size;have a3:=zd Y;have X:=zd i2;obtain⟨c1,-⟩:=zc i1;obtain⟨c2,-⟩:=zc i2;have f2:W.frozen? (U (w.1.size+1) 0)=false:=zI i2 0;obtain⟨x0,x1,x2,x3,-⟩:=zc Y;have HI:=ze i2;have a1:=ze i1;have u:=ze i3;have HX:=ze Y;have a6:prog.follows .mixedOrders=true:=by kernel_rfl
  have HC:=ze (ud H x W i3);have Z:=ze (ud H x W.drew i3.drew);clear i1 i2 i3 Y;gi_wp2
  gi_region_with_o (refine⟨trivial,?_⟩;gi_at_call 193;(first|refine(CallsIn.inRound l (callsIn_wide.2 HC)).mono ?_|refine(CallsIn.inRound l (callsIn_wide.2 Z)).mono ?_);rintro e w' ⟨rfl,i⟩;have d2:Cz w' (w.1.size+1) 0 (I (vY (d.map f))):=(i.cell (p:=(U (w.1.size+1) 0)) X).trans c2;have e2:w'.frozen? (U (w.1.size+1) 0)=false:=zI ((i.block _ X).trans HI) 0;have a:=ze i;clear i)
  all_goals gi_wp2
  all_goals(try go_bits)
  all_goals exact zco (x:=x) rfl a1 HI u g ⟨a.os,a.tape,a.output,a.size,a.block⟩
 case done=>
  rintro D xs W hD hS ⟨i1,i2,i3⟩ L;obtain⟨c2,-⟩:=zc i2;have u:=ze i3;clear i1 i2 i3;gi_wp2;refine⟨by simp,.inl ⟨_,_,rfl,run_takeDeferred L,?_⟩⟩;exact⟨_,results_tmp rfl _ _ _,xs,hS,rfl,xG u (G _) (by omega) L _⟩
 case stop=>
  rintro D c d W _ _ h _;exact h.elim
attribute [local go_sem] Oper.semAt_some
def qK(c:Cf)(se tm:Int)(k:Nat):Sg:=⟨(k:Int),se,tm/c.wh (k:Int)⟩
def qd(c:Cf)(se tm:Int)(k:Nat):List Sg:=(List.range k).map (qK c se tm)
theorem vy(c:Cf)(se tm:Int)(k:Nat):qd c se tm (k+1)=qd c se tm k++[qK c se tm k]:=by simp[qd,List.range_succ]
theorem Yw(c:Cf)(se tm:Int)(k:Nat):(qd c se tm k).length=k:=by simp[qd]
theorem Y8(b:c.ok)(d:0<=se/\se<4)(a:0<=tm/\tm<=100000)(i:k<c.n):(qK c se tm k).wf:=by
 obtain⟨f,g⟩:=b.wh (t:=(k:Int)) (by omega) (by omega);have hn:=b.n4;have h:0<=tm/c.wh (k:Int):=Int.ediv_nonneg a.1 (by omega);have e:tm/c.wh (k:Int)<=tm:=Int.ediv_le_self _ a.1;refine⟨?_,?_,?_⟩<;>unfold xX<;>simp only[qK]<;>omega
structure Xp(W:z0)(q:Nat)(s:Nat)(c:Cf)(tv:z1)(lb gb:Nat)(se tm:Int):Prop where
 b0:W.1[q]?=E (.cells #[(O s)] 90 (0,0))
 b1:W.1[q+1]?=E (.cells #[I se] 3 (0,0))
 b2:W.1[q+2]?=E (.cells #[I tm] 3 (0,0))
 hd:vI W s c tv lb gb
theorem Xp.later(h:Xp W q s c tv lb gb se tm)(a:Below W.1.size W W'):Xp W' q s c tv lb gb se tm:=
 ⟨(a.block _ (zd h.b0)).trans h.b0,(a.block _ (zd h.b1)).trans h.b1,(a.block _ (zd h.b2)).trans h.b2,h.hd.later a⟩
theorem Ks(h:Below W.1.size W W'):W.grownBy W' z7:=⟨h.os,h.tape,h.output,h.size,fun k a _=>h.block k a⟩
theorem zfx(n:Nat)(hn:1<=n)(l q s:Nat)(c:Cf)(M:c.ok)(tv:z1)(lb gb:Nat)(se tm:Int)(w:0<=se/\se<4)(y:0<=tm/\tm<=100000)(Kp:z0->z0->Prop)(j:∀A B,Kp A B->Xp A q s c tv lb gb se tm->Xp B q s c tv lb gb se tm)(J S:List WSg->z0->Prop)(V:∀d x W,J d W->d.length<c.n->YieldAt Fence.wide (n-1) prog l #[.agg #[I x.1.t,I x.1.se,I x.1.we]] W fun e W'=>
   (e=.returned (.bool true)/\J (d++[x]) W'/\Kp W W')\/(e=.returned (.bool false)/\S (d++[x]) W')) (W:z0) (U:AbidesFrom W.1.size J) (f:Xp W q s c tv lb gb se tm) (h0:J [] W):
  CallsIn Fence.wide n prog 183 #[.func (.yield l) #[] #[],(O q),(O (q+1)),(O (q+2))] W fun e W'=>(∃v,e=.returned v)/\
   ((∃xs,xs=(qd c se tm c.n).map zkJ/\J xs W')\/(∃d,True/\S d W')):=by
 obtain⟨a,cap,rfl⟩:=zq f.hd.trow;have HR:=ze f;have HT:=ze (J8 c a cap W);obtain⟨c0,c1,c2,c3,c4,c5,c6,-,-⟩:=f.hd.cells;have P:=f.hd.lt;obtain⟨Y,-⟩:=zc f.b0;have a0:=M.n4;have R:=ze U;have HY:=ze V;have z:=ze j;clear f U V j;refine callsIn_of_wp func183 rfl trivial ?_ rfl;simp only[ntmps183,sZz,Nat.reduceAdd,Nat.reduceSub];gi_wp2_with (first|(refine⟨trivial,?_⟩;gi_at_call 179;refine(callsIn_wide.2 HT).mono ?_;rintro e w1 ⟨rfl,m⟩)|gi_in);clear c0 c1 c2 c3 c4 c5 c6 Y P;gi_loopw [11] (fun i wr=>∃k:Nat,k<=c.n/\i=I k/\J ((qd c se tm k).map zkJ) wr/\Xp wr q s c (.slice a c.n cap) lb gb se tm)
  (fun i _=>c.n-(intOf i).toNat)
 case atStart=>exact⟨0,za _,rfl,ud R _ _ _ z7 h0 (Ks m) (fun r e=>by cases e),HR.later m⟩
 case round=>
  obtain⟨k,hk,rfl,g,b⟩:=hrel;by_cases p:k<c.n
  ·obtain⟨Y,-⟩:=zc b.b0;obtain⟨q1,-⟩:=zc b.b1;obtain⟨q2,-⟩:=zc b.b2;have u:(k:Int)<c.n:=(by omega);have Z:=ze (zeN b.hd M (k:Int) se tm (by omega) u y);have F:=ze b;have Q:=Y8 M w y p;clear b;gi_wp2_with (first|(refine⟨trivial,?_⟩;gi_at_call 122;refine(callsIn_wide.2 Z).mono ?_;rintro e w2 ⟨rfl,o⟩;have H:=ud R _ _ _ z7 g (Ks o) (fun r e=>by cases e);obtain⟨fn,tmps,assign,body,X,L⟩:=ud HY _ (zkJ (qK c se tm k)) w2 H (by rw[List.length_map,Yw];exact p);rw[YV Q]at X;dsimp only[qK]at X)|gi_in);refine L.mono ?_;rintro e W3 (⟨rfl,K,N⟩|⟨rfl,h⟩)
   ·have D:=ze (ud z _ _ N (F.later o));gi_wp2;go_roundw;case rel=>exact⟨k+1,by omega,by simp,by rw[vy,List.map_append,List.map_singleton];exact K,D⟩
    case measure=>simp[intOf];omega
   ·gi_wp2;refine bodyPost_ret (results_none rfl _ _ _) rfl ?_;exact⟨⟨_,rfl⟩,.inr ⟨_,trivial,h⟩⟩
  ·obtain rfl:k=c.n:=(by omega);gi_wp2;go_end0;exact⟨⟨_,rfl⟩,.inl ⟨_,rfl,g⟩⟩
theorem Yc:∀args w,(callFunc 183 args).run prog w=.ok (.enter 183 args) w:=enters_of func183 (by kernel_rfl) rfl
theorem zcV(n:Nat)(hn:1<=n)(q s:Nat)(c:Cf)(k:c.ok)(tv:z1)(lb gb:Nat)(se tm:Int)(a:0<=se/\se<4)(d:0<=tm/\tm<=100000)(Kp:z0->z0->Prop)(b:∀A B,Kp A B->Xp A q s c tv lb gb se tm->Xp B q s c tv lb gb se tm)(w:z0)(h:Xp w q s c tv lb gb se tm):
  SeqStopsK Fence.wide n prog 183 #[(O q),(O (q+1)),(O (q+2))] (fun x:WSg=>#[.agg #[I x.1.t,I x.1.se,I x.1.we]]) Kp (fun xs=>xs=(qd c se tm c.n).map zkJ) (fun _=>True) c.n w:=
 fun l J e W i g _ j f=>zfx n hn l q s c k tv lb gb se tm a d Kp b J e j W g (h.later i) f
theorem K5(w:z0)(a b c:Obj):(((w.alloc a).alloc b).alloc c).1[w.1.size]?=E a/\(((w.alloc a).alloc b).alloc c).1[w.1.size+1]?=E b/\(((w.alloc a).alloc b).alloc c).1[w.1.size+2]?=E c/\Below w.1.size w (((w.alloc a).alloc b).alloc c)/\(((w.alloc a).alloc b).alloc c).1.size=w.1.size+3:=by
 obtain⟨e,f,g,d⟩:=box2 w a b;refine⟨(Below.heap_alloc _ _ _ (by rw[d];omega)).trans e,(Below.heap_alloc _ _ _ (by rw[d];omega)).trans f,?_,g.alloc (by rw[d];omega) _,by simp⟩;have:=zo ((w.alloc a).alloc b) c;rw[d]at this;exact this
def Kc(w:z0)(s:Nat)(se tm:Int):z0:=((w.alloc (.cells #[(O s)] 90)).alloc (.cells #[I se] 3)).alloc (.cells #[I tm] 3)
theorem Kd(h:vI w s c tv lb gb)(se tm:Int):Xp (Kc w s se tm) w.1.size s c tv lb gb se tm/\Below w.1.size w (Kc w s se tm)/\(Kc w s se tm).1.size=w.1.size+3:=by
 obtain⟨b,d,e,a,f⟩:=K5 w (.cells #[(O s)] 90) (.cells #[I se] 3) (.cells #[I tm] 3);exact⟨⟨b,d,e,h.later a⟩,a,f⟩
theorem Ka(s:Nat)(se tm:Int)(w:z0):
  Calls prog 120 #[(O s),I se,I tm] w fun e w'=>e=.returned (.func (.func 183) #[] #[(O w.1.size),(O (w.1.size+1)),(O (w.1.size+2))])/\w'=Kc w s se tm:=by
 go_in;go_wp2_with fail;go_ret;exact⟨rfl,rfl⟩
theorem Zz{e:TypeId}{xs:List z1}(h:w.ownsRow base e size v n xs):∀k,v.ownBlock=E k->k<w.1.size:=fun k c=>by
 obtain⟨a,b⟩:=zG h c;exact zd b
theorem Xp.kx{m:Nat}(h:Xp A q s c tv lb gb se tm)(b:KX ex n m A B)(a:∀i,i<=2->q+i<n/\¬ex (q+i))(d:s<n/\¬ex s)(g:∀k,tv.ownBlock=E k->k<n/\¬ex k):Xp B q s c tv lb gb se tm:=
 ⟨qB b h.b0 (a 0 (by omega)).1 (a 0 (by omega)).2,qB b h.b1 (a 1 (by omega)).1 (a 1 (by omega)).2,qB b h.b2 (a 2 (by omega)).1 (a 2 (by omega)).2,h.hd.kept b.kept (fun e=>e.elim d.2 (by have:=d.1;omega)) (fun k f e=>by have:=g k f;exact e.elim this.2 (by omega))⟩
theorem zbd(q s:Nat)(c:Cf)(g:c.ok)(tv:z1)(lb gb:Nat)(se tm:Int)(a:0<=se/\se<4)(e:0<=tm/\tm<=100000)(w:z0)(f:Xp w q s c tv lb gb se tm)(h:∀i,i<=2->q+i<n/\¬ex (q+i))(j:s<n/\¬ex s)(l:∀k,tv.ownBlock=E k->k<n/\¬ex k):
  Z8 ex n prog 183 #[(O q),(O (q+1)),(O (q+2))] (fun x:WSg=>#[.agg #[I x.1.t,I x.1.se,I x.1.we]]) (fun xs=>xs=(qd c se tm c.n).map zkJ) c.n w:=
 fun m _=>Yy.of (zcV 6 (by omega) q s c g tv lb gb se tm a e (KX ex n m) (fun A B b d=>d.kx b h j l) w f)
theorem Xi:∀args w,(callFunc 121 args).run prog w=.ok (.enter 121 args) w:=enters_of func121 (by kernel_rfl) rfl
theorem KL{c:Cf}(j:c.ok){L:LV}{Gl:List (Sg×Unit)}{se tm val:Int}(a:0<=se/\se<4)(f:0<=tm/\tm<=100000)(d:∀p∈L,p.2.st≠0)(b:∀k:Nat,k<c.n->zU Gl (qK c se tm k)=z7):∀k,k<=c.n->((((qd c se tm k).map zkJ).filter (fun x=>(stG Gl L x.1).st==0)).length:Int)=yv c L ⟨se,tm,val⟩ k
 |0,_=>by simp[qd,yv]
 |k+1,o=>by
  have m:=KL j (val:=val) a f d b k (by omega);rw[vy,List.map_append,List.filter_append,List.length_append,Int.natCast_add,m];simp only[List.map_cons,List.map_nil,List.filter_cons,List.filter_nil,yv];rw[YV (Y8 j a f (by omega))];have e:zT c (k:Int) ⟨se,tm,val⟩=qK c se tm k:=rfl;have l:stG Gl L (qK c se tm k)=stL L (qK c se tm k):=by unfold stG;rw[b k (by omega)]
  rw[e,l];by_cases g:qK c se tm k∈zw L
  ·obtain⟨v,hv,i⟩:=JT g;have h:¬(stL L (qK c se tm k)).st=0:=(by unfold stL;rw[hv];exact d _ i);simp[h,g]
  ·have h:(stL L (qK c se tm k)).st=0:=(by unfold stL;rw[yT.2 g];rfl);simp[h,g]
theorem zbN(h:xK w s c tv lb gb Gl L)(t:c.ok)(se tm val:Int)(b:0<=se/\se<4)(l:0<=tm/\tm<=100000)(j:∀p∈L,p.2.st≠0)(g:∀k:Nat,k<c.n->zU Gl (qK c se tm k)=z7):
  Calls prog 62 #[(O s),I se,I tm] w (Rz w (I (1+2*yv c L ⟨se,tm,val⟩ c.n))):=by
 have u:=jm c L ⟨se,tm,val⟩ c.n;have J:=t.n4;have v:=KL t (val:=val) b l j g c.n (G _);generalize yv c L ⟨se,tm,val⟩ c.n=M at*;obtain⟨F,H⟩:=u;obtain⟨y,a,q⟩:=Kd h.hd se tm;have f:=h.foot_lt;have m:=ze (Ka s se tm w);have o:=ze (zhN (fun x:WSg=>x.1) 183 #[(O w.1.size),(O (w.1.size+1)),(O (w.1.size+2))] Yc 121 #[(O s)] #[] Xi (fun x=>(stG Gl L x.1).st==0) (Kc w s se tm)
  (fun x W B=>Yk (h.later (a.trans (B.mono a.size))) x.1 x.2)
  (zbd w.1.size s c t tv lb gb se tm b l (Kc w s se tm) y (fun i K=>⟨by omega,fun e=>e⟩) ⟨by have:=h.lt;omega,fun e=>e⟩ (fun k D=>⟨by have:=f k (.inr (.inl D));omega,fun e=>e⟩))
  (fun xs e=>by rw[e,List.length_map,Yw];omega))
 have A:=ze v;have d:=ze a;clear v y a h j g f q;go_in;go_wp2_with fail;refine m.mono ?_;rintro e w1 ⟨rfl,rfl⟩;go_wp2_with fail;refine o.mono ?_;rintro e w1 ⟨xs,rfl,z,r⟩;rw[ud A]at z;subst z;go_wp2_with fail;go_ret;exact⟨rfl,d.trans (r.mono d.size)⟩
attribute [local go_sem] Oper.semAt_some
def CAt(W:z0)(b:Nat)(l:List Cl):Prop:=∀j x,l[j]?=E x->W.cell? (U b (j*4))=E (I x.cnt)/\W.cell? (U b (j*4+1))=E (I x.sum)/\W.cell? (U b (j*4+2))=E (i_ x.mn)/\W.cell? (U b (j*4+3))=E (i_ x.mx)
theorem CAt.below{l:List Cl}(h:CAt A b l)(a:Below n A B)(c:b<n):CAt B b l:=fun j x i=>by
 obtain⟨d,e,f,g⟩:=h j x i;exact⟨(a.cell (p:=(U b _)) c).trans d,(a.cell (p:=(U b _)) c).trans e,(a.cell (p:=(U b _)) c).trans f,(a.cell (p:=(U b _)) c).trans g⟩
theorem zfB(n:Nat)(hn:1<=n)(l Bs m b cap:Nat)(ad:Option Addr)(zs:List Cl)(M:zs≠[]->ad=E (U b 0))(V:zs.length<=1000)(N:b<m)(J t:List Cl->z0->Prop)(w:∀a x W,J a W->a.length<zs.length->YieldAt Fence.wide (n-1) prog l #[.agg #[I x.cnt,I x.sum,i_ x.mn,i_ x.mx]] W fun e W'=>
   (e=.returned (.bool true)/\J (a++[x]) W'/\Below m W W')\/(e=.returned (.bool false)/\t (a++[x]) W')) (W:z0) (q:m<=W.1.size) (u:AbidesFrom W.1.size J) (K:W.cell? (U Bs 0)=E (.slice ad zs.length cap)) (y:CAt W b zs) (H:J [] W):
  CallsIn Fence.wide n prog 238 #[.func (.yield l) #[] #[],(O Bs)] W fun e W'=>(∃v,e=.returned v)/\
   ((∃xs,xs=zs/\J xs W')\/(∃a,True/\t a W')):=by
 have A:=ze y;have F:=ze w;have B:=ze u;clear y w u;refine callsIn_of_wp func238 rfl trivial ?_ rfl;simp only[ntmps238,sZz,Nat.reduceAdd,Nat.reduceSub];gi_wp2;gi_loopw [7] (fun i wr=>∃k:Nat,k<=zs.length/\i=I k/\J (zs.take k) wr/\Below m W wr)
  (fun i _=>zs.length-(intOf i).toNat)
 case atStart=>exact⟨0,za _,rfl,H,Below.refl _ _⟩
 case round=>
  obtain⟨k,R,rfl,h,d⟩:=hrel;by_cases c:k<zs.length
  ·obtain rfl:=M (fun e=>by rw[e]at c;simp at c);obtain⟨x,s⟩:=xC c;obtain⟨X,Y,Z,y3⟩:=A.below d N k x s;have g:=ud B _ _ _ z7 h (World.grownBy_alloc wr (.cells #[I x.cnt,I x.sum,i_ x.mn,i_ x.mx] 115) z7) (fun r e=>by cases e);obtain⟨fn,tmps,assign,body,S,L⟩:=ud F _ x _ g (by rw[List.length_take];omega);have z:(k:Int)<zs.length:=(by omega);have D:=ze s;have f:=ze d;clear s d g;gi_wp2;refine L.mono ?_;rintro e Q (⟨rfl,o,p⟩|⟨rfl,j⟩)
   ·gi_wp2;go_roundw;case rel=>
     refine⟨k+1,by omega,by simp,?_,?_⟩
     ·obtain⟨P,ex⟩:=List.getElem?_eq_some_iff.1 D;rw[List.take_succ_eq_append_getElem P,ex];exact o
     ·exact(f.alloc (zb q f.size) _).trans p
    case measure=>simp[intOf];omega
   ·gi_wp2;refine bodyPost_ret (results_none rfl _ _ _) rfl ?_;exact⟨⟨_,rfl⟩,.inr ⟨_,trivial,j⟩⟩
  ·obtain rfl:k=zs.length:=(by omega);gi_wp2;go_end0;exact⟨⟨_,rfl⟩,.inl ⟨_,List.take_length,h⟩⟩
theorem zdb(a:Option Addr)(len cap:Nat)(w:z0):
  Calls prog 186 #[.slice a len cap] w fun e w'=>e=.returned (.func (.func 238) #[] #[(O w.1.size)])/\w'=w.alloc (.cells #[.slice a len cap] 208):=by
 go_in;go_wp2_with fail;go_ret;exact⟨rfl,rfl⟩
theorem Q8:∀args w,(callFunc 238 args).run prog w=.ok (.enter 238 args) w:=enters_of func238 (by kernel_rfl) rfl
theorem JL(n:Nat)(hn:1<=n)(Bs c b cap:Nat)(ad:Option Addr)(zs:List Cl)(m:zs≠[]->ad=E (U b 0))(q:zs.length<=1000)(g:b<c)(w:z0)(a:c<=w.1.size)(d:Bs<w.1.size)(e:w.cell? (U Bs 0)=E (.slice ad zs.length cap))(o:CAt w b zs):
  SeqStopsK Fence.wide n prog 238 #[(O Bs)] (fun x:Cl=>#[.agg #[I x.cnt,I x.sum,i_ x.mn,i_ x.mx]]) (Below c) (fun xs=>xs=zs) (fun _=>True) zs.length w:=
 fun l J h W f j _ k i=>zfB n hn l Bs c b cap ad zs m q g J h k W (zb a f.size) j ((f.cell (p:=(U Bs 0)) d).trans e) (o.below (f.mono a) g) i
def zfy(a b:Int):Int:=if a<b then-1 else if b<a then 1 else 0
theorem Kz(a:Int)(w:z0):Calls prog 239 #[i_ a] w fun e w'=>e=.returned (.bool false)/\w'=w:=by
 have h:(a==a)=true:=by simp
 go_in;go_wp2_with fail;go_ret;exact⟨by simp,rfl⟩
theorem Kg(a b:Int)(w:z0):Calls prog 188 #[i_ a,i_ b] w fun e w'=>e=.returned (I (zfy a b))/\w'=w:=by
 rcases Int.lt_trichotomy a b with h|h|h
 ·rw[show zfy a b= -1 from by simp[zfy,h]]
  go_in;go_wp2_with(go_at_call 239;refine(Kz _ _).mono ?_;rintro e w1 ⟨rfl,rfl⟩);go_ret;exact⟨rfl,rfl⟩
 ·rw[show zfy a b=0 from by simp[zfy,h]]
  have c:¬a<b:=by omega
  have d:¬b<a:=by omega
  have f:decide (a<b)=false:=by simpa using c
  have g:decide (b<a)=false:=by simpa using d
  go_in;go_wp2_with(go_at_call 239;refine(Kz _ _).mono ?_;rintro e w1 ⟨rfl,rfl⟩);go_ret;exact⟨rfl,rfl⟩
 ·have c:¬a<b:=by omega
  rw[show zfy a b=1 from by simp[zfy,h,c]]
  have f:decide (a<b)=false:=by simpa using c
  go_in;go_wp2_with(go_at_call 239;refine(Kz _ _).mono ?_;rintro e w1 ⟨rfl,rfl⟩);go_ret;exact⟨rfl,rfl⟩
def KO(x y:Cl):Int:=zfy x.mn y.mn
def KP(x y:Cl):Int:=zfy y.mx x.mx
theorem zim(x y:Cl)(w:z0):Calls prog 187 #[.agg #[I x.cnt,I x.sum,i_ x.mn,i_ x.mx],.agg #[I y.cnt,I y.sum,i_ y.mn,i_ y.mx]] w (Rz w (I (KO x y))):=by
 go_in;go_wp2_with(go_at_call 188;refine(Kg _ _ _).mono ?_;rintro e w1 ⟨rfl,rfl⟩);go_ret;exact⟨rfl,(box2 w _ _).2.2.1⟩
theorem zin(x y:Cl)(w:z0):Calls prog 189 #[.agg #[I x.cnt,I x.sum,i_ x.mn,i_ x.mx],.agg #[I y.cnt,I y.sum,i_ y.mn,i_ y.mx]] w (Rz w (I (KP x y))):=by
 go_in;go_wp2_with(go_at_call 188;refine(Kg _ _ _).mono ?_;rintro e w1 ⟨rfl,rfl⟩);go_ret;exact⟨rfl,(box2 w _ _).2.2.1⟩
theorem zio(x:Cl)(w:z0):Calls prog 191 #[.agg #[I x.cnt,I x.sum,i_ x.mn,i_ x.mx]] w (Rz w (I x.cnt)):=by
 go_in;go_wp2_with fail;go_ret;exact⟨rfl,(Below.refl _ _).alloc (G _) _⟩
theorem ziq(x:Cl)(w:z0):Calls prog 193 #[.agg #[I x.cnt,I x.sum,i_ x.mn,i_ x.mx]] w (Rz w (I x.sum)):=by
 go_in;go_wp2_with fail;go_ret;exact⟨rfl,(Below.refl _ _).alloc (G _) _⟩
attribute [local go_sem] Oper.semAt_some
def jz(a:Cl->Cl->Int)(o:Option Cl)(x:Cl):Option Cl:=match o with
 |none=>E x
 |some f=>if a x f<0 then E x else E f
def yi(a:Cl->Cl->Int)(l:List Cl):Option Cl:=l.foldl (jz a) z7
theorem vB(a:Cl->Cl->Int)(l:List Cl)(x:Cl):yi a (l++[x])=jz a (yi a l) x:=by simp[yi]
def qH(x:Cl):Obj:=.cells #[I x.cnt,I x.sum,i_ x.mn,i_ x.mx] 115 (0,0)
theorem YG{a b c d:z1}{t:TypeId}(h:w.1[g]?=E (.cells #[a,b,c,d] t fr))(x y z u:z1):((((w.setCell (U g 0) x).setCell (U g 1) y).setCell (U g 2) z).setCell (U g 3) u).1[g]?=E (.cells #[x,y,z,u] t fr):=by
 have:=xq (i:=3) (xq (i:=2) (xq (i:=1) (xq (i:=0) h x) y) z) u;exact this
theorem zW(h:k≠g):(w.setCell (U g i) v).1[k]?=w.1[k]?:=by
 rcases Nat.lt_or_gt_of_ne h with h|h
 ·exact((Below.refl (k+1) w).setCell (p:=(U g i)) (show k+1<=g from h) v).block k (Nat.lt_succ_self _)
 ·have c:zj (fun k=>k=g) w (w.setCell (U g i) v):=zk (zj.refl _ _) rfl;by_cases d:k<w.1.size
  ·exact c.block k d (by omega)
  ·have a:w.1[k]?=z7:=(by simp;omega);have b:(w.setCell (U g i) v).1.size=w.1.size:=(by simp[World.setCell]);rw[a];simp[b];omega
structure FI(ov:z1)(ot:TypeId)(w:z0)(o:Option Cl)(W:z0):Prop where
 i1:W.1[w.1.size]?=E (.cells #[ov] ot (0,0))
 i2:W.1[w.1.size+1]?=E (qH qL)
 i3:W.1[w.1.size+2]?=E (qH (o.getD qL))
 i4:W.1[w.1.size+3]?=E (.cells #[.bool o.isSome] 4 (0,0))
 i5:Below w.1.size w W
variable {o:Option Cl}
theorem FI.own{d:TypeId}{row:Option Nat}(f:w.1.size<=N)(a:FI ov d w o A)(b:A.grownBy B row)(c:∀r,row=E r->N<=r/\∃o:Obj,A.1[r]?=E o/\o.isCells=false):FI ov d w o B:=
 ⟨zH a.i1 b (fun r e=>(c r e).2),zH a.i2 b (fun r e=>(c r e).2),zH a.i3 b (fun r e=>(c r e).2),zH a.i4 b (fun r e=>(c r e).2),a.i5.grown b a.i5.size (fun k e=>by have:=(c k e).1;omega)⟩
theorem FI.later{b:TypeId}(h:FI ov b w o A)(a:Below A.1.size A B):FI ov b w o B:=
 ⟨(a.block _ (zd h.i1)).trans h.i1,(a.block _ (zd h.i2)).trans h.i2,(a.block _ (zd h.i3)).trans h.i3,(a.block _ (zd h.i4)).trans h.i4,h.i5.trans (a.mono h.i5.size)⟩
variable {o':Option Cl}
theorem VU{c:TypeId}(h:FI ov c w o W)(d:o'=o)(b:Zk w.1.size Kp)(a:Below W.1.size W X):KeepsFrom N W X/\Kp W X/\FI ov c w o' X:=by
 subst d;exact⟨(yF a).from _,b.of _ _ (yF a) (a.mono h.i5.size),h.later a⟩
theorem Q9{j:TypeId}{x:Cl}(h:FI ov j w o W)(n:o'=E x)(e:Zk w.1.size Kp)(d:Below W.1.size W X):
  KeepsFrom N W (((((X.setCell (U (w.1.size+2) 0) (I x.cnt)).setCell (U (w.1.size+2) 1) (I x.sum)).setCell (U (w.1.size+2) 2) (i_ x.mn)).setCell (U (w.1.size+2) 3) (i_ x.mx)).setCell (U (w.1.size+3) 0) (.bool true))/\Kp W (((((X.setCell (U (w.1.size+2) 0) (I x.cnt)).setCell (U (w.1.size+2) 1) (I x.sum)).setCell (U (w.1.size+2) 2) (i_ x.mn)).setCell (U (w.1.size+2) 3) (i_ x.mx)).setCell (U (w.1.size+3) 0) (.bool true))/\FI ov j w o' (((((X.setCell (U (w.1.size+2) 0) (I x.cnt)).setCell (U (w.1.size+2) 1) (I x.sum)).setCell (U (w.1.size+2) 2) (i_ x.mn)).setCell (U (w.1.size+2) 3) (i_ x.mx)).setCell (U (w.1.size+3) 0) (.bool true)):=by
 subst n;have b:=h.later d;have f:KeepsOthers W (((((X.setCell (U (w.1.size+2) 0) (I x.cnt)).setCell (U (w.1.size+2) 1) (I x.sum)).setCell (U (w.1.size+2) 2) (i_ x.mn)).setCell (U (w.1.size+2) 3) (i_ x.mx)).setCell (U (w.1.size+3) 0) (.bool true)):=(((((yF d).trans (KeepsOthers.setCell _ _ _)).trans (KeepsOthers.setCell _ _ _)).trans (KeepsOthers.setCell _ _ _)).trans (KeepsOthers.setCell _ _ _)).trans (KeepsOthers.setCell _ _ _);have g:Below w.1.size W (((((X.setCell (U (w.1.size+2) 0) (I x.cnt)).setCell (U (w.1.size+2) 1) (I x.sum)).setCell (U (w.1.size+2) 2) (i_ x.mn)).setCell (U (w.1.size+2) 3) (i_ x.mx)).setCell (U (w.1.size+3) 0) (.bool true)):=(((((d.mono h.i5.size).setCell (p:=(U (w.1.size+2) 0)) (show w.1.size<=w.1.size+2 by omega) _).setCell (p:=(U (w.1.size+2) 1)) (show w.1.size<=w.1.size+2 by omega) _).setCell (p:=(U (w.1.size+2) 2)) (show w.1.size<=w.1.size+2 by omega) _).setCell (p:=(U (w.1.size+2) 3)) (show w.1.size<=w.1.size+2 by omega) _).setCell (p:=(U (w.1.size+3) 0)) (show w.1.size<=w.1.size+3 by omega) _;have l:=YG b.i3 (I x.cnt) (I x.sum) (i_ x.mn) (i_ x.mx);have a:∀k,k≠w.1.size+2->((((X.setCell (U (w.1.size+2) 0) (I x.cnt)).setCell (U (w.1.size+2) 1) (I x.sum)).setCell (U (w.1.size+2) 2) (i_ x.mn)).setCell (U (w.1.size+2) 3) (i_ x.mx)).1[k]?=X.1[k]?:=fun k c=>by
  rw[zW c,zW c,zW c,zW c]
 have m:=xq (i:=0) ((a (w.1.size+3) (by omega)).trans b.i4) (.bool true);refine⟨f.from _,e.of _ _ f g,⟨?_,?_,?_,m,h.i5.trans g⟩⟩
 ·rw[zW (by omega),a _ (by omega)];exact b.i1
 ·rw[zW (by omega),a _ (by omega)];exact b.i2
 ·rw[zW (by omega)];exact l
theorem zfE(gf:Nat)(lb:Array z1)(eg:∀args w,(callFunc gf args).run prog w=.ok (.enter gf args) w)(w:z0)(a3:Zk w.1.size Kp)(P:SeqStopsK Fence.wide 6 prog gf lb (fun x:Cl=>#[.agg #[I x.cnt,I x.sum,i_ x.mn,i_ x.mx]]) Kp S Sp N w):
  Calls prog 185 #[.func (.func gf) #[] lb,.func (.func 187) #[] #[]] w fun e w'=>∃xs,S xs/\e=.returned (.tuple #[clV ((yi KO xs).getD qL),.bool (yi KO xs).isSome])/\Below w.1.size w w':=by
 have X:=ze P;have q:=ze a3;have a7:=ze eg;obtain⟨b1,b2,b3,M,k⟩:=K5 w (.cells #[.func (.func 187) #[] #[]] 268) (qH qL) (qH qL);have y:Hid (FI (.func (.func 187) #[] #[]) 268 w z7 ((((w.alloc (.cells #[.func (.func 187) #[] #[]] 268)).alloc (qH qL)).alloc (qH qL)).alloc zhk)):=
  ⟨(Below.heap_alloc _ _ _ (by rw[k];omega)).trans b1,(Below.heap_alloc _ _ _ (by rw[k];omega)).trans b2,(Below.heap_alloc _ _ _ (by rw[k];omega)).trans b3,by have:=zo (((w.alloc (.cells #[.func (.func 187) #[] #[]] 268)).alloc (qH qL)).alloc (qH qL)) zhk;rw[k]at this;exact this,M.alloc (by rw[k];omega) _⟩
 have BZ:Hid (((((w.alloc (.cells #[.func (.func 187) #[] #[]] 268)).alloc (qH qL)).alloc (qH qL)).alloc zhk).1.size=w.1.size+4):=by show _=_;rw[zE,k]
 clear P a3 eg b1 b2 b3 M k;unfold qH qL at y BZ;dsimp only at y BZ;refine(callsIn_wide (n:=7)).1 ?_;refine callsIn_of_wp_marks func185 rfl trivial ?_ rfl;simp only[ntmps185,sZz,Nat.reduceAdd,Nat.reduceSub];gi_wp2;obtain⟨W0,a1⟩:∃W0,((((w.alloc (.cells #[.func (.func 187) #[] #[]] 268)).alloc kq).alloc kq).alloc zhk)=W0:=⟨_,rfl⟩;rw[a1]at y BZ ⊢;clear a1;have hz:W0.1.size=w.1.size+4:=ud BZ;refine wpIn_rangeFunc_ownH (F:=Fence.wide) (n:=7) rfl (by omega) (gf:=gf) (lb:=lb) rfl trivial a7 X q.t (fun W l o o' hl=>q.b W l o o' (by omega)) y.i5 (fun _=>rfl)
  (fun u W=>FI (.func (.func 187) #[] #[]) 268 w (yi KO u) W)
  (fun _ _ _=>False)
  (fun s A B row hs V hr=>FI.own (by omega) hs V hr)
  (fun _ _ _ _ _ hs _ _=>hs)
  y
  (fun x a' W=>∃v,w.1.size+4<=v/\W.1[v]?=E (.cells #[I x.cnt,I x.sum,i_ x.mn,i_ x.mx] 115 (0,0))/\a'={tmps:=#[.func (.func gf) #[] lb,.func (.func 187) #[] #[],u_,(O w.1.size),(O (w.1.size+1)),.bool false,(O (w.1.size+2)),(O (w.1.size+3)),(O v),.func (.func gf) #[] lb,.agg #[I x.cnt,I x.sum,i_ x.mn,i_ x.mx],u_,u_,u_,u_,u_,u_,u_,u_,u_,u_,u_,u_],defers:=[]})
  (fun x a' s A B row hs V hr=>by
   obtain⟨v,h1,h2,h3⟩:=hs;exact⟨v,h1,zH h2 V (fun r e=>(hr r e).2),h3⟩) ?assign ?body ?done ?stop
 case assign=>
  rintro l u x W K d Z;have a5:=d.i5.size;have ae:=zd d.i4;have HK:=ze Z;have m:=ze d;clear Z d;gi_wp2;refine ud HK _ _ ((KeepsOthers.alloc _ _).from _) (q.of _ _ (KeepsOthers.alloc _ _) ((Below.refl _ W).alloc a5 _)) (m.later ((Below.refl _ _).alloc (G _) _)) ⟨W.1.size,by omega,zo _ _,rfl⟩
 case body=>
  rintro l u x a' W hl ⟨r,hr⟩ d ⟨v,ad,hx,rfl⟩ af;have a5:=d.i5.size;have J:=zd hx;have aa:=zd d.i4;obtain⟨c1,-⟩:=zc d.i1;obtain⟨x0,x1,x2,x3,-⟩:=zc hx;have ab:¬v=w.1.size+2:=by omega
  have ac:¬v=w.1.size+3:=by omega
  have m:=ze d;have HX:=ze hx;have i:=vB KO u x;cases hF:yi KO u with
  |none=>
   rw[hF]at d m i;obtain⟨g0,g1,g2,g3,-⟩:=zc d.i3;have Y:=fun j=>zI d.i3 j;have a9:=fun j=>zI d.i4 j;obtain⟨c4,-⟩:=zc d.i4;have z:=ze i;clear d hx hF i;gi_wp2;refine⟨fun _ h=>(by cases h),?_⟩;gi_wp2;all_goals(try go_bits)
   exact Q9 m z q (Below.refl _ _)
  |some f=>
   rw[hF]at d m i;obtain⟨g0,g1,g2,g3,-⟩:=zc d.i3;obtain⟨c4,-⟩:=zc d.i4;have HC:=ze (zim x f W);have L:=zd d.i3;clear d hx hF;by_cases ho:KO x f<0
   ·have z:=ze (i.trans (show jz KO (E f) x=E x by simp[jz,ho]));clear i;generalize KO x f=O9 at*;gi_wp2_with (first|(refine⟨trivial,?_⟩;gi_at_call 187;refine(CallsIn.inRound l (callsIn_wide.2 HC)).mono ?_;rintro e w' ⟨rfl,a⟩;have d0:=(a.cell (p:=(U v 0)) J).trans x0;have d1:=(a.cell (p:=(U v 1)) J).trans x1;have d2:=(a.cell (p:=(U v 2)) J).trans x2;have d3:=(a.cell (p:=(U v 3)) J).trans x3;have e0:=(a.cell (p:=(U (w.1.size+2) 0)) L).trans g0;have e1:=(a.cell (p:=(U (w.1.size+2) 1)) L).trans g1;have e2:=(a.cell (p:=(U (w.1.size+2) 2)) L).trans g2;have e3:=(a.cell (p:=(U (w.1.size+2) 3)) L).trans g3;have e4:=(a.cell (p:=(U (w.1.size+3) 0)) aa).trans c4;have Y:=fun j=>zI (m.later a).i3 j;have a9:=fun j=>zI (m.later a).i4 j;have Q:=ze a;clear a)|gi_in);all_goals(try go_bits)
    exact Q9 m z q Q
   ·have z:=ze (i.trans (show jz KO (E f) x=E f by simp[jz,ho]));have ag:decide (KO x f<0)=false:=(by simpa using ho);clear i;generalize KO x f=O9 at*;gi_wp2_with (first|(refine⟨trivial,?_⟩;gi_at_call 187;refine(CallsIn.inRound l (callsIn_wide.2 HC)).mono ?_;rintro e w' ⟨rfl,a⟩;have Q:=ze a;clear a)|gi_in);all_goals(try go_bits)
    exact VU m z q Q
 case done=>
  rintro D xs W hD hS d Z;have m:=ze d;have HK:=ze Z;have HS:=ze hS;obtain⟨fo,R⟩:∃fo,yi KO xs=fo:=⟨_,rfl⟩;rw[R]at d m;obtain⟨g0,g1,g2,g3,-⟩:=zc d.i3;obtain⟨c4,-⟩:=zc d.i4;obtain⟨r0,r1,r2,r3,-⟩:=zc d.i2;have Y:=fun j=>zI d.i2 j;have a8:=ze R;clear d Z hS R;obtain⟨g,V⟩:∃g,fo.getD qL=g:=⟨_,rfl⟩;obtain⟨bb,hbb⟩:∃bb,fo.isSome=bb:=⟨_,rfl⟩;rw[V]at g0 g1 g2 g3;rw[hbb]at c4;have HG:=ze V;have a6:=ze hbb;clear V hbb;gi_wp2
  gi_region
  gi_wp2;have H:D≠w.1.size+1:=by omega
  have a4:=zjQ m.i2 (I g.cnt) (I g.sum) (i_ g.mn) (i_ g.mx);have a0:(((((W.setCell (U (w.1.size+1) 0) (I g.cnt)).setCell (U (w.1.size+1) 1) (I g.sum)).setCell (U (w.1.size+1) 2) (i_ g.mn)).setCell (U (w.1.size+1) 3) (i_ g.mx)).drew).1[D]?=E (.deferred (E [])):=by
   show((((W.setCell (U (w.1.size+1) 0) (I g.cnt)).setCell (U (w.1.size+1) 1) (I g.sum)).setCell (U (w.1.size+1) 2) (i_ g.mn)).setCell (U (w.1.size+1) 3) (i_ g.mx)).1[D]?=_;rw[zW H,zW H,zW H,zW H];exact HK
  have a2:=(m.i5).trans (YY (w:=W) (B:=w.1.size) (g:=w.1.size+1) (Nat.le_succ _) (I g.cnt) (I g.sum) (i_ g.mn) (i_ g.mx));refine⟨by simp,.inl ⟨_,_,rfl,run_takeDeferred a0,?_⟩⟩;refine⟨_,zn results185 _ _ (w.1.size+1) _ _ _ _ _ rfl rfl ((World.putObj_heap_other (fun e=>H e.symm)).trans a4) underlying115 rfl (by kernel_rfl),xs,HS,?_,xG a2 (G _) (by omega) a0 _⟩;rw[ud a8,ud HG,ud a6];rfl
 case stop=>
  rintro D c u W _ _ h _;exact h.elim
theorem zfF(gf:Nat)(lb:Array z1)(eg:∀args w,(callFunc gf args).run prog w=.ok (.enter gf args) w)(w:z0)(a3:Zk w.1.size Kp)(P:SeqStopsK Fence.wide 6 prog gf lb (fun x:Cl=>#[.agg #[I x.cnt,I x.sum,i_ x.mn,i_ x.mx]]) Kp S Sp N w):
  Calls prog 185 #[.func (.func gf) #[] lb,.func (.func 189) #[] #[]] w fun e w'=>∃xs,S xs/\e=.returned (.tuple #[clV ((yi KP xs).getD qL),.bool (yi KP xs).isSome])/\Below w.1.size w w':=by
 have X:=ze P;have q:=ze a3;have a7:=ze eg;obtain⟨b1,b2,b3,M,k⟩:=K5 w (.cells #[.func (.func 189) #[] #[]] 268) (qH qL) (qH qL);have y:Hid (FI (.func (.func 189) #[] #[]) 268 w z7 ((((w.alloc (.cells #[.func (.func 189) #[] #[]] 268)).alloc (qH qL)).alloc (qH qL)).alloc zhk)):=
  ⟨(Below.heap_alloc _ _ _ (by rw[k];omega)).trans b1,(Below.heap_alloc _ _ _ (by rw[k];omega)).trans b2,(Below.heap_alloc _ _ _ (by rw[k];omega)).trans b3,by have:=zo (((w.alloc (.cells #[.func (.func 189) #[] #[]] 268)).alloc (qH qL)).alloc (qH qL)) zhk;rw[k]at this;exact this,M.alloc (by rw[k];omega) _⟩
 have BZ:Hid (((((w.alloc (.cells #[.func (.func 189) #[] #[]] 268)).alloc (qH qL)).alloc (qH qL)).alloc zhk).1.size=w.1.size+4):=by show _=_;rw[zE,k]
 clear P a3 eg b1 b2 b3 M k;unfold qH qL at y BZ;dsimp only at y BZ;refine(callsIn_wide (n:=7)).1 ?_;refine callsIn_of_wp_marks func185 rfl trivial ?_ rfl;simp only[ntmps185,sZz,Nat.reduceAdd,Nat.reduceSub];gi_wp2;obtain⟨W0,a1⟩:∃W0,((((w.alloc (.cells #[.func (.func 189) #[] #[]] 268)).alloc kq).alloc kq).alloc zhk)=W0:=⟨_,rfl⟩;rw[a1]at y BZ ⊢;clear a1;have hz:W0.1.size=w.1.size+4:=ud BZ;refine wpIn_rangeFunc_ownH (F:=Fence.wide) (n:=7) rfl (by omega) (gf:=gf) (lb:=lb) rfl trivial a7 X q.t (fun W l o o' hl=>q.b W l o o' (by omega)) y.i5 (fun _=>rfl)
  (fun u W=>FI (.func (.func 189) #[] #[]) 268 w (yi KP u) W)
  (fun _ _ _=>False)
  (fun s A B row hs V hr=>FI.own (by omega) hs V hr)
  (fun _ _ _ _ _ hs _ _=>hs)
  y
  (fun x a' W=>∃v,w.1.size+4<=v/\W.1[v]?=E (.cells #[I x.cnt,I x.sum,i_ x.mn,i_ x.mx] 115 (0,0))/\a'={tmps:=#[.func (.func gf) #[] lb,.func (.func 189) #[] #[],u_,(O w.1.size),(O (w.1.size+1)),.bool false,(O (w.1.size+2)),(O (w.1.size+3)),(O v),.func (.func gf) #[] lb,.agg #[I x.cnt,I x.sum,i_ x.mn,i_ x.mx],u_,u_,u_,u_,u_,u_,u_,u_,u_,u_,u_,u_],defers:=[]})
  (fun x a' s A B row hs V hr=>by
   obtain⟨v,h1,h2,h3⟩:=hs;exact⟨v,h1,zH h2 V (fun r e=>(hr r e).2),h3⟩) ?assign ?body ?done ?stop
 case assign=>
  rintro l u x W K d Z;have a5:=d.i5.size;have ae:=zd d.i4;have HK:=ze Z;have m:=ze d;clear Z d;gi_wp2;refine ud HK _ _ ((KeepsOthers.alloc _ _).from _) (q.of _ _ (KeepsOthers.alloc _ _) ((Below.refl _ W).alloc a5 _)) (m.later ((Below.refl _ _).alloc (G _) _)) ⟨W.1.size,by omega,zo _ _,rfl⟩
 case body=>
  rintro l u x a' W hl ⟨r,hr⟩ d ⟨v,ad,hx,rfl⟩ af;have a5:=d.i5.size;have J:=zd hx;have aa:=zd d.i4;obtain⟨c1,-⟩:=zc d.i1;obtain⟨x0,x1,x2,x3,-⟩:=zc hx;have ab:¬v=w.1.size+2:=by omega
  have ac:¬v=w.1.size+3:=by omega
  have m:=ze d;have HX:=ze hx;have i:=vB KP u x;cases hF:yi KP u with
  |none=>
   rw[hF]at d m i;obtain⟨g0,g1,g2,g3,-⟩:=zc d.i3;have Y:=fun j=>zI d.i3 j;have a9:=fun j=>zI d.i4 j;obtain⟨c4,-⟩:=zc d.i4;have z:=ze i;clear d hx hF i;gi_wp2;refine⟨fun _ h=>(by cases h),?_⟩;gi_wp2;all_goals(try go_bits)
   exact Q9 m z q (Below.refl _ _)
  |some f=>
   rw[hF]at d m i;obtain⟨g0,g1,g2,g3,-⟩:=zc d.i3;obtain⟨c4,-⟩:=zc d.i4;have HC:=ze (zin x f W);have L:=zd d.i3;clear d hx hF;by_cases ho:KP x f<0
   ·have z:=ze (i.trans (show jz KP (E f) x=E x by simp[jz,ho]));clear i;generalize KP x f=O9 at*;gi_wp2_with (first|(refine⟨trivial,?_⟩;gi_at_call 189;refine(CallsIn.inRound l (callsIn_wide.2 HC)).mono ?_;rintro e w' ⟨rfl,a⟩;have d0:=(a.cell (p:=(U v 0)) J).trans x0;have d1:=(a.cell (p:=(U v 1)) J).trans x1;have d2:=(a.cell (p:=(U v 2)) J).trans x2;have d3:=(a.cell (p:=(U v 3)) J).trans x3;have e0:=(a.cell (p:=(U (w.1.size+2) 0)) L).trans g0;have e1:=(a.cell (p:=(U (w.1.size+2) 1)) L).trans g1;have e2:=(a.cell (p:=(U (w.1.size+2) 2)) L).trans g2;have e3:=(a.cell (p:=(U (w.1.size+2) 3)) L).trans g3;have e4:=(a.cell (p:=(U (w.1.size+3) 0)) aa).trans c4;have Y:=fun j=>zI (m.later a).i3 j;have a9:=fun j=>zI (m.later a).i4 j;have Q:=ze a;clear a)|gi_in);all_goals(try go_bits)
    exact Q9 m z q Q
   ·have z:=ze (i.trans (show jz KP (E f) x=E f by simp[jz,ho]));have ag:decide (KP x f<0)=false:=(by simpa using ho);clear i;generalize KP x f=O9 at*;gi_wp2_with (first|(refine⟨trivial,?_⟩;gi_at_call 189;refine(CallsIn.inRound l (callsIn_wide.2 HC)).mono ?_;rintro e w' ⟨rfl,a⟩;have Q:=ze a;clear a)|gi_in);all_goals(try go_bits)
    exact VU m z q Q
 case done=>
  rintro D xs W hD hS d Z;have m:=ze d;have HK:=ze Z;have HS:=ze hS;obtain⟨fo,R⟩:∃fo,yi KP xs=fo:=⟨_,rfl⟩;rw[R]at d m;obtain⟨g0,g1,g2,g3,-⟩:=zc d.i3;obtain⟨c4,-⟩:=zc d.i4;obtain⟨r0,r1,r2,r3,-⟩:=zc d.i2;have Y:=fun j=>zI d.i2 j;have a8:=ze R;clear d Z hS R;obtain⟨g,V⟩:∃g,fo.getD qL=g:=⟨_,rfl⟩;obtain⟨bb,hbb⟩:∃bb,fo.isSome=bb:=⟨_,rfl⟩;rw[V]at g0 g1 g2 g3;rw[hbb]at c4;have HG:=ze V;have a6:=ze hbb;clear V hbb;gi_wp2
  gi_region
  gi_wp2;have H:D≠w.1.size+1:=by omega
  have a4:=zjQ m.i2 (I g.cnt) (I g.sum) (i_ g.mn) (i_ g.mx);have a0:(((((W.setCell (U (w.1.size+1) 0) (I g.cnt)).setCell (U (w.1.size+1) 1) (I g.sum)).setCell (U (w.1.size+1) 2) (i_ g.mn)).setCell (U (w.1.size+1) 3) (i_ g.mx)).drew).1[D]?=E (.deferred (E [])):=by
   show((((W.setCell (U (w.1.size+1) 0) (I g.cnt)).setCell (U (w.1.size+1) 1) (I g.sum)).setCell (U (w.1.size+1) 2) (i_ g.mn)).setCell (U (w.1.size+1) 3) (i_ g.mx)).1[D]?=_;rw[zW H,zW H,zW H,zW H];exact HK
  have a2:=(m.i5).trans (YY (w:=W) (B:=w.1.size) (g:=w.1.size+1) (Nat.le_succ _) (I g.cnt) (I g.sum) (i_ g.mn) (i_ g.mx));refine⟨by simp,.inl ⟨_,_,rfl,run_takeDeferred a0,?_⟩⟩;refine⟨_,zn results185 _ _ (w.1.size+1) _ _ _ _ _ rfl rfl ((World.putObj_heap_other (fun e=>H e.symm)).trans a4) underlying115 rfl (by kernel_rfl),xs,HS,?_,xG a2 (G _) (by omega) a0 _⟩;rw[ud a8,ud HG,ud a6];rfl
 case stop=>
  rintro D c u W _ _ h _;exact h.elim
def xP(zs:List Cl):Cl:=⟨vY (zs.map (·.cnt)),vY (zs.map (·.sum)),((yi KO zs).getD qL).mn,((yi KP zs).getD qL).mx⟩
section
variable {b cap:Nat} {ad:Option Addr} {zs:List Cl} {Y:z0}
theorem YK(a:zs≠[]->ad=E (U b 0))(e:zs.length<=1000)(c:b<Y.1.size)(d:CAt Y b zs):SeqStopsK Fence.wide 6 prog 238 #[(O Y.1.size)] (fun x:Cl=>#[.agg #[I x.cnt,I x.sum,i_ x.mn,i_ x.mx]]) (Below (Y.alloc (.cells #[.slice ad zs.length cap] 208)).1.size) (fun xs=>xs=zs) (fun _=>True) zs.length (Y.alloc (.cells #[.slice ad zs.length cap] 208)):=
 JL 6 (by omega) Y.1.size _ b cap ad zs a e (by simp;omega) _ (G _) (by simp) (by rw[xd (zo _ _)];rfl) (d.below ((Below.refl _ _).alloc (G _) _) c)
theorem YU{o:Obj}(h:Below (Y.alloc o).1.size (Y.alloc o) w'):Below Y.1.size Y w':=((Below.refl _ _).alloc (G _) o).trans (h.mono (by simp))
theorem zms(V:Int)(a:vY (zs.map (·.cnt))=V)(c:zs≠[]->ad=E (U b 0))(g:zs.length<=1000)(d:b<Y.1.size)(f:CAt Y b zs):Calls prog 190 #[.func (.func 238) #[] #[(O Y.1.size)],.func (.func 191) #[] #[]] (Y.alloc (.cells #[.slice ad zs.length cap] 208)) (Rz Y (I V)):=by
 refine(zoA _ _ Q8 (·.cnt) _ (vt _) (fun x W _=>zio x W) (YK c g d f)).mono ?_;rintro e w' ⟨xs,rfl,rfl,h⟩;exact⟨by rw[a],YU h⟩
theorem zmt(V:Int)(a:vY (zs.map (·.sum))=V)(c:zs≠[]->ad=E (U b 0))(g:zs.length<=1000)(d:b<Y.1.size)(f:CAt Y b zs):Calls prog 192 #[.func (.func 238) #[] #[(O Y.1.size)],.func (.func 193) #[] #[]] (Y.alloc (.cells #[.slice ad zs.length cap] 208)) (Rz Y (I V)):=by
 refine(zoB _ _ Q8 (·.sum) _ (vt _) (fun x W _=>ziq x W) (YK c g d f)).mono ?_;rintro e w' ⟨xs,rfl,rfl,h⟩;exact⟨by rw[a],YU h⟩
theorem ziA(f:Cl)(s:Bool)(g:(yi KO zs).getD qL=f)(i:(yi KO zs).isSome=s)(a:zs≠[]->ad=E (U b 0))(j:zs.length<=1000)(c:b<Y.1.size)(d:CAt Y b zs):Calls prog 185 #[.func (.func 238) #[] #[(O Y.1.size)],.func (.func 187) #[] #[]] (Y.alloc (.cells #[.slice ad zs.length cap] 208)) (Rz Y (.tuple #[.agg #[I f.cnt,I f.sum,i_ f.mn,i_ f.mx],.bool s])):=by
 refine(zfE _ _ Q8 _ (vt _) (YK a j c d)).mono ?_;rintro e w' ⟨xs,rfl,rfl,h⟩;exact⟨by rw[g,i];rfl,YU h⟩
theorem zbp(f:Cl)(s:Bool)(g:(yi KP zs).getD qL=f)(i:(yi KP zs).isSome=s)(a:zs≠[]->ad=E (U b 0))(j:zs.length<=1000)(c:b<Y.1.size)(d:CAt Y b zs):Calls prog 185 #[.func (.func 238) #[] #[(O Y.1.size)],.func (.func 189) #[] #[]] (Y.alloc (.cells #[.slice ad zs.length cap] 208)) (Rz Y (.tuple #[.agg #[I f.cnt,I f.sum,i_ f.mn,i_ f.mx],.bool s])):=by
 refine(zfF _ _ Q8 _ (vt _) (YK a j c d)).mono ?_;rintro e w' ⟨xs,rfl,rfl,h⟩;exact⟨by rw[g,i];rfl,YU h⟩
end
theorem zaa(ad:Option Addr)(b cap:Nat)(zs:List Cl)(ha:zs≠[]->ad=E (U b 0))(hz:zs.length<=1000)(w:z0)(t:b<w.1.size)(q:CAt w b zs):
  Calls prog 123 #[.slice ad zs.length cap] w (Rz w (clV (xP zs))):=by
 obtain⟨c,N⟩:∃f,(yi KO zs).getD qL=f:=⟨_,rfl⟩;obtain⟨s1,a9⟩:∃f,(yi KO zs).isSome=f:=⟨_,rfl⟩;obtain⟨a,P⟩:∃f,(yi KP zs).getD qL=f:=⟨_,rfl⟩;obtain⟨s2,aa⟩:∃f,(yi KP zs).isSome=f:=⟨_,rfl⟩;obtain⟨R,x⟩:∃f,vY (zs.map (·.cnt))=f:=⟨_,rfl⟩;obtain⟨v2,y⟩:∃f,vY (zs.map (·.sum))=f:=⟨_,rfl⟩;have hj:clV (xP zs)=.agg #[I R,I v2,i_ c.mn,i_ a.mx]:=by unfold xP clV;rw[N,P,x,y]
 rw[hj];clear hj;have aF:=ze x;have aG:=ze y;have K:Below w.1.size w (w.alloc kq):=(Below.refl _ _).alloc (G _) _;have a6:=zo w kq;have ac:=zE w kq;have J:=fun Y=>ze (zdb ad zs.length cap Y);have ar:=fun(Y:z0) (t:b<Y.1.size) (q:CAt Y b zs)=>ze (ziA (cap:=cap) (Y:=Y) c s1 N a9 ha hz t q);have al:=fun(Y:z0) (t:b<Y.1.size) (q:CAt Y b zs)=>ze (zbp (cap:=cap) (Y:=Y) a s2 P aa ha hz t q);have au:=fun(Y:z0) (t:b<Y.1.size) (q:CAt Y b zs)=>ze (zms (cap:=cap) (Y:=Y) R x ha hz t q);have V:=fun(Y:z0) (t:b<Y.1.size) (q:CAt Y b zs)=>ze (zmt (cap:=cap) (Y:=Y) v2 y ha hz t q);clear N a9 P aa x y hz ha;go_in;go_wp2_with fail;have L:=q.below K t;generalize(w.alloc kq)=X0 at*;have a2:b<X0.1.size:=by omega
 have ay:w.1.size<X0.1.size:=by omega
 have aH:=ze ac;clear ac;have W:=J X0;refine W.mono ?_;rintro e x1 ⟨rfl,rfl⟩;go_wp2_with fail;have an:=ar X0 a2 L;refine an.mono ?_;rintro e i ⟨rfl,a0⟩;have H:=ze a0;clear a0;go_wp2_with fail;have o:=H.alloc H.size (.cells #[I c.cnt,I c.sum,i_ c.mn,i_ c.mx] 115);have a7:=zo i (.cells #[I c.cnt,I c.sum,i_ c.mn,i_ c.mx] 115);have ai:=zE i (.cells #[I c.cnt,I c.sum,i_ c.mn,i_ c.mx] 115);have M:=L.below o (by omega);generalize(i.alloc (.cells #[I c.cnt,I c.sum,i_ c.mn,i_ c.mx] 115))=Z at*;have aC:=o.size;have a3:b<Z.1.size:=by omega
 have az:w.1.size<Z.1.size:=by omega
 have aL:i.1.size<Z.1.size:=by omega
 have aI:=ze ai;clear ai;have X:=J Z;refine X.mono ?_;rintro e x1 ⟨rfl,rfl⟩;go_wp2_with fail;have ao:=al Z a3 M;refine ao.mono ?_;rintro e l ⟨rfl,a1⟩;have r:=ze a1;clear a1;go_wp2_with fail;have m:=r.alloc r.size (.cells #[I a.cnt,I a.sum,i_ a.mn,i_ a.mx] 115);have a8:=zo l (.cells #[I a.cnt,I a.sum,i_ a.mn,i_ a.mx] 115);have aB:=zE l (.cells #[I a.cnt,I a.sum,i_ a.mn,i_ a.mx] 115);have a5:=M.below m (by omega);have D:=(m.block i.1.size (by omega)).trans a7;have k:=(m.block w.1.size (by omega)).trans ((o.block w.1.size (by omega)).trans a6);have ab:Below w.1.size w (l.alloc (.cells #[I a.cnt,I a.sum,i_ a.mn,i_ a.mx] 115)):=K.trans ((o.mono (zf ay)).trans (m.mono (zf az)));have aD:=m.size;have aE:=r.size;generalize(l.alloc (.cells #[I a.cnt,I a.sum,i_ a.mn,i_ a.mx] 115))=z at*;obtain⟨-,-,l1,-⟩:=zc D;obtain⟨-,-,-,l2,-⟩:=zc a8;obtain⟨r0,r1,r2,r3,-⟩:=zc k;have rf:=fun j=>zI k j;have am:=ze k;have av:=ze ab;have ae:i.1.size<z.1.size:=by omega
 have af:l.1.size<z.1.size:=by omega
 have Q:w.1.size<z.1.size:=by omega
 have hbb:b<z.1.size:=by omega
 clear a6 a7 D a8 k o m ab M L q aC aD aE aB K;have aw:¬i.1.size=w.1.size:=by have:=H.size;omega
 have ax:¬l.1.size=w.1.size:=by have:=r.size;omega
 have aJ:¬w.1.size=i.1.size:=fun h=>aw h.symm;have aK:¬w.1.size=l.1.size:=fun h=>ax h.symm;have S:Hid (Calls prog 190 #[.func (.func 238) #[] #[(O z.1.size)],.func (.func 191) #[] #[]] (z.alloc (.cells #[.slice ad zs.length cap] 208)).drew (Rz z (I R))):=ze ((au z.drew hbb a5).mono fun e w' h=>⟨h.1,⟨h.2.os,h.2.tape,h.2.output,h.2.size,h.2.block⟩⟩);go_region_held3 (fun w'=>w'.cell? (U i.1.size 2)=E (i_ c.mn)/\w'.cell? (U l.1.size 3)=E (i_ a.mx)) (go_keep) (first
  |(go_at_call 186;refine(J _).mono ?_;rintro e x1 ⟨rfl,rfl⟩)
  |(go_at_call 190;refine S.mono ?_;rintro e s ⟨rfl,d⟩;have m1:Cz s i.1.size 2 (i_ c.mn):=(d.cell (p:=(U i.1.size 2)) ae).trans l1;have m2:Cz s l.1.size 3 (i_ a.mx):=(d.cell (p:=(U l.1.size 3)) af).trans l2;have A:b<s.1.size:=z6 hbb d.size;have a4:CAt s b zs:=a5.below d hbb;have ag:i.1.size<s.1.size:=z6 ae d.size;have ah:l.1.size<s.1.size:=z6 af d.size;have F:w.1.size<s.1.size:=z6 Q d.size;have ap:=ze ((d.block w.1.size Q).trans am);have aj:=ze d;clear d)
  |(go_at_call 192;(first|refine(V s A a4).mono ?_|refine(V s.drew A a4).mono ?_);rintro e X4 ⟨rfl,n⟩;have n1:Cz X4 i.1.size 2 (i_ c.mn):=(n.cell (p:=(U i.1.size 2)) ag).trans m1;have n2:Cz X4 l.1.size 3 (i_ a.mx):=(n.cell (p:=(U l.1.size 3)) ah).trans m2;have u:=(n.block w.1.size F).trans ap;obtain⟨q0,q1,q2,q3,-⟩:=zc u;have qf:=fun j=>zI u j;have aq:=ze u;have ak:=ze n;clear u n))
 go_wp2_with fail;have hf:=YG aq (I R) (I v2) (i_ c.mn) (i_ a.mx);have aA:=av.trans ((aj.mono (zf Q)).trans ((ak.mono (zf F)).trans (below4 (w:=X4) (B:=w.1.size) (g:=w.1.size) (G _) (I R) (I v2) (i_ c.mn) (i_ a.mx))));refine bodyPost_ret (v:=.agg #[I R,I v2,i_ c.mn,i_ a.mx]) (results_cell_row results123 _ _ w.1.size _ _ _ _ rfl hf underlying115 rfl (by kernel_rfl)) rfl ?_;exact⟨rfl,aA⟩
def kR(v:Int):Cl:=⟨1,v,v,v⟩
def Cl.small(x:Cl):Prop:=0<=x.cnt/\x.cnt<=1000000000000/\ -1000000000000000000<=x.sum/\x.sum<=1000000000000000000
theorem zly(v:Int)(hv: -2147483648<=v/\v<=2147483647):xP [kR v]=ya v z7:=by
 unfold xP;have a:vY ([kR v].map (·.cnt))=1:=by rw[vF]<;>simp[qr,kR]
 have b:vY ([kR v].map (·.sum))=v:=by rw[vF]<;>simp[qr,kR];omega
 rw[a,b];simp[yi,jz,kR,ya]
theorem zhL(a b:Int):zfy a b<0↔a<b:=by
 unfold zfy;split
 ·simp[*]
 ·split<;>simp[*]
theorem zlz(v:Int)(hv: -2147483648<=v/\v<=2147483647)(o:Cl)(e:o.small):xP [kR v,o]=ya v (E o):=by
 obtain⟨f,g,h,i⟩:=e;unfold xP;have c:vY ([kR v,o].map (·.cnt))=1+o.cnt:=by rw[vF]<;>simp[qr,kR];omega
 have d:vY ([kR v,o].map (·.sum))=v+o.sum:=by rw[vF]<;>simp[qr,kR];omega
 rw[c,d];have a:((yi KO [kR v,o]).getD qL).mn=if o.mn<v then o.mn else v:=by
  simp only[yi,List.foldl_cons,List.foldl_nil,jz,KO,zhL,kR];split<;>simp
 have b:((yi KP [kR v,o]).getD qL).mx=if v<o.mx then o.mx else v:=by
  simp only[yi,List.foldl_cons,List.foldl_nil,jz,KP,zhL,kR];split<;>simp
 rw[a,b];rfl
theorem zlZ(L:LV)(s:Sg)(v:SV):(km L s v).length<=L.length+1:=by unfold km;split<;>simp
def zox(L:LV):Prop:=∀p∈L,p.2.st≠0
theorem zlJ(h:zox L)(s:Sg):(stL L s).st=0↔s∉zw L:=by
 constructor
 ·intro a b;obtain⟨v,hv,c⟩:=JT b;unfold stL at a;rw[hv]at a;exact h _ c a
 ·intro b;unfold stL;rw[yT.2 b];rfl
theorem YO{e:TypeId}{xs:List z1}(h:w.1[g]?=E (.cells xs.toArray e (0,0)))(a:xs.length=n*size)(hn:0<n)(c:n<=maxLen)(b:base<=g):w.ownsRow base e size (.slice (E (U g 0)) n n) n xs:=
 ⟨a,.inr ⟨g,n,_,rfl,b,h,⟨G _,c,by simp[a],by
  show List.take (n*size) xs=xs;exact List.take_of_length_le (by omega)⟩⟩⟩
def Zr(x:Cl):List z1:=[I x.cnt,I x.sum,i_ x.mn,i_ x.mx]
theorem CAt.of_owns{e:TypeId}{zs:List Cl}(h:w.ownsRow base e 4 (.slice (E (U g 0)) zs.length cap) zs.length (zs.flatMap Zr)):CAt w g zs:=fun j x b=>by
 have d:j<zs.length:=(List.getElem?_eq_some_iff.1 b).1;have a:=fun i c=>qs (f:=Zr) (k:=4) (fun _=>rfl) zs j x i b c;refine⟨?_,?_,?_,?_⟩
 ·rw[h.cellAt (j*4) (by omega)];exact a 0 (by omega)
 ·rw[h.cellAt (j*4+1) (by omega)];exact a 1 (by omega)
 ·rw[h.cellAt (j*4+2) (by omega)];exact a 2 (by omega)
 ·rw[h.cellAt (j*4+3) (by omega)];exact a 3 (by omega)
theorem zgU(h:xK X s c tv lb gb Gl L)(b:L.length<maxLen){k:Sg}(d:k.wf)(v:SV):
  ∃o,(Instr.mapUpdate 152 (.map (E lb)) (.agg #[I k.t,I k.se,I k.we]) (.agg #[I k.t,I k.se,I k.we,I v.st,I v.cl.cnt,I v.cl.sum,i_ v.cl.mn,i_ v.cl.mx])).run prog X=.ok () (setBlock X lb o)/\xK (setBlock X lb o) s c tv lb gb Gl (km L k v)/\zj (fun k=>k=lb) X (setBlock X lb o)/\o.isCells=false:=by
 obtain⟨o,j,l,g,m⟩:=zcg h.live b d v;have a:∀{k:Nat} {cs:Array z1} {t:TypeId} {fr:Nat×Nat},X.1[k]?=E (.cells cs t fr)->¬k=lb:=fun d e=>by
  obtain⟨es,cl,n,_⟩:=h.live;rw[e,n]at d;cases d
 refine⟨o,j,⟨g.heap h.head (a h.head),zi h.trow g (fun k d=>?_),l,h.gone.kept g h.apart,h.apart⟩,g,m⟩;obtain⟨i,f⟩:=zG h.trow d;exact a f
theorem Xg{s:Sg}(b:vm w lb L)(a:Below w.1.size w X)(c:s.wf):(Instr.lookup 152 (.map (E lb)) (.agg #[I s.t,I s.se,I s.we]) true).run prog X=.ok (.tuple #[.agg #[I (stX L s).1.t,I (stX L s).1.se,I (stX L s).1.we,I (stX L s).2.st,I (stX L s).2.cl.cnt,I (stX L s).2.cl.sum,i_ (stX L s).2.cl.mn,i_ (stX L s).2.cl.mx],.bool (vf L s).isSome]) X:=by
 have:=zeT true (b.later a) c;have e:zdo true (vx zX) L s=.tuple #[vx (stX L s),.bool (vf L s).isSome]:=by
  unfold zdo stX;cases vf L s<;>rfl
 rw[e]at this;exact this
theorem Tryz.infoCell:(prog.info? 115).map (fun i=>(i.zero,i.size,i.bytes))=E (E (.agg #[I 0,I 0,i_ 0,i_ 0]),4,24):=by kernel_rfl
theorem zjq{ops:Array Oper}{rest:List Oper}{o:Oper}(i:o.guard=z7)(s x:Operand)(p:o.op=.call {callee:=.builtin .append,args:=#[s,x],argTypes:=#[208,208]})(base:Nat)(v:z1)(l:List Cl)(f:Cl)(q:a.eval s=v)(c:w.ownsRow base 115 4 v l.length (l.flatMap Zr))(d:Nat)(r:a.eval x=.slice (E (U d 0)) 1 1)(e:w.1[d]?=E (.cells #[I f.cnt,I f.sum,i_ f.mn,i_ f.mx] 115 (0,0)))(t:l.length<=1000000000)(b:base<=w.1.size)(h:∀g cap w',w'.ownsRow base 115 4 (.slice (E (U g 0)) (l.length+1) cap) (l++[f]).length ((l++[f]).flatMap Zr)->w.grownBy w' v.ownBlock->g<w'.1.size->wpList prog ops Q rest (a.put o.dst (.slice (E (U g 0)) (l.length+1) cap)) w'):wpList prog ops Q (o::rest) a w:=
 zO i s x 208 p base 115 _ 4 24 underlying208 Tryz.infoCell rfl (by decide) v l.length (l.flatMap Zr) q c (U d 0) 1 1 [I f.cnt,I f.sum,i_ f.mn,i_ f.mx] r rfl
  (World.news_of_block (cs:=#[I f.cnt,I f.sum,i_ f.mn,i_ f.mx]) e) (by intro u j;simp at j;rcases j with rfl|rfl|rfl|rfl<;>rfl) (by decide) (by simp only[maxLen];omega) (by omega) b
  fun g cap w' k _ m _ n=>h g cap w' (by rw[Km,List.length_append,List.length_singleton];exact k) m n
theorem zD{f:Nat->Prop}(h:zj f A B)(hn:¬f k)(a:k<A.1.size):B.cell? (U k i)=A.cell? (U k i):=by
 simp only[World.cell?,h.block k a hn]
def YE(q:List (Sg×Unit)×LV)(x:SX):List (Sg×Unit)×LV:=if x.2.st=4 then(qM q.1 x.1 (),xB q.2 x.1)else(q.1,km q.2 x.1 x.2)
def vj(q:List (Sg×Unit)×LV)(xs:List SX):List (Sg×Unit)×LV:=xs.foldl YE q
theorem QY(q:List (Sg×Unit)×LV)(xs:List SX)(x:SX):vj q (xs++[x])=YE (vj q xs) x:=by simp[vj]
def zmW(c:Cf)(L:LV)(x:Nm):SX:=(xt c x,⟨1,ya x.val ((vf L (xt c x)).map (·.cl))⟩)
def QT(c:Cf)(Gl:List (Sg×Unit))(L:LV)(x:Nm)(k:Nat):List SX:=((qd c x.se x.tm k).filter (fun s=>(stG Gl L s).st==0)).map (fun s=>(s,(⟨2,qL⟩:SV)))
def yI(c:Cf)(Gl:List (Sg×Unit))(L:LV)(x:Nm):List SX:=zmW c L x::QT c Gl L x c.n
theorem J4(c:Cf)(x:Nm):∀(k:Nat) (L:LV) (s:Sg),s∈zw (kZ c x k L)↔s∈zw L\/∃j:Nat,j<k/\s=zT c (j:Int) x
 |0,L,s=>by simp[kZ]
 |k+1,L,s=>by
  have f:=J4 c x k L;show s∈zw (qm c x k (kZ c x k L))↔_;unfold qm;by_cases d:zT c (k:Int) x∈zw (kZ c x k L)
  ·rw[if_pos d,f];constructor
   ·rintro(h|⟨j,b,e⟩)
    ·exact .inl h
    ·exact .inr ⟨j,by omega,e⟩
   ·rintro(h|⟨j,b,e⟩)
    ·exact .inl h
    ·by_cases a:j=k
     ·subst a;subst e;exact(f _).1 d
     ·exact .inr ⟨j,by omega,e⟩
  ·rw[if_neg d,xU,f];constructor
   ·rintro((h|⟨j,b,e⟩)|e)
    ·exact .inl h
    ·exact .inr ⟨j,by omega,e⟩
    ·exact .inr ⟨k,by omega,e⟩
   ·rintro(h|⟨j,b,e⟩)
    ·exact .inl (.inl h)
    ·by_cases a:j=k
     ·subst a;exact .inr e
     ·exact .inl (.inr ⟨j,by omega,e⟩)
theorem zca{c:Cf}{Gl:List (Sg×Unit)}{L:LV}{x:Nm}(d:zox L)(b:∀k:Nat,k<c.n->zU Gl (zT c (k:Int) x)=z7):∀k:Nat,k<=c.n->vj (Gl,yg c L x) (QT c Gl L x k)=(Gl,kZ c x k (yg c L x))
 |0,_=>rfl
 |k+1,o=>by
  have i:=zca d b k (by omega);have l:qK c x.se x.tm k=zT c (k:Int) x:=rfl;have g:(stG Gl L (zT c (k:Int) x)).st=0↔zT c (k:Int) x∉zw L:=by unfold stG;rw[b k (by omega)];exact zlJ d _
  have a:zT c (k:Int) x∈zw (kZ c x k (yg c L x))↔zT c (k:Int) x∈zw L:=by
   rw[J4];unfold yg;rw[xU];constructor
   ·rintro((h|h)|⟨j,m,e⟩)
    ·exact h
    ·exact absurd h (zjO (by omega))
    ·exact absurd e (zjO (by omega))
   ·exact fun h=> .inl (.inl h)
  have e:QT c Gl L x (k+1)=QT c Gl L x k++(if zT c (k:Int) x∈zw L then[]else[(zT c (k:Int) x,(⟨2,qL⟩:SV))]):=by
   unfold QT;rw[vy,List.filter_append,List.map_append,l];congr 1;by_cases h:zT c (k:Int) x∈zw L
   ·rw[if_pos h,List.filter_cons,if_neg (by simpa using fun f=>g.1 f h)];rfl
   ·rw[if_neg h,List.filter_cons,if_pos (by simpa using g.2 h)];rfl
  rw[e];show _=(Gl,qm c x k (kZ c x k (yg c L x)));unfold qm;by_cases h:zT c (k:Int) x∈zw L
  ·rw[if_pos h,if_pos (a.2 h),List.append_nil,i]
  ·rw[if_neg h,if_neg (fun f=>h (a.1 f)),QY,i];rfl
theorem zgB{x:Nm}(b:zox L)(a:∀k:Nat,k<c.n->zU Gl (zT c (k:Int) x)=z7):vj (Gl,L) (yI c Gl L x)=(Gl,kY c L x):=by
 have h:=zca b a c.n (G _);unfold kY;rw[<-h];rfl
def qj(c:Cf)(k:Nat):Int:=c.wh (k:Int)/c.wh (c.F k)
theorem XC(a:c.ok)(f:k<c.n):0<=qj c k/\qj c k<=1000:=by
 obtain⟨g,h⟩:=a.wh (t:=(k:Int)) (by omega) (by omega);obtain⟨d,e⟩:=a.F k f;obtain⟨i,j⟩:=a.wh d e;unfold qj;constructor
 ·exact Int.ediv_nonneg (by omega) (by omega)
 ·have:=Int.ediv_le_self (b:=c.wh (c.F k)) (show 0<=c.wh (k:Int) by omega);omega
theorem zfP(c:Cf)(q:c.ok)(a:Option Addr)(cap:Nat)(k:Nat)(A:k<c.n)(we:Int)(L:0<=we/\we<=100000)(w:z0)(e:TS w a c.n c.F c.W c.K):Calls prog 232 #[(cZz c a cap),I k,I we] w (Rz w (.tuple #[I (c.F k),I (we*qj c k),I ((we+1)*qj c k)])):=by
 have x:=q.n4;obtain⟨Q,R⟩:=q.F k A;obtain⟨a4,a5⟩:=q.wh (t:=(k:Int)) (by omega) (by omega);obtain⟨a6,a7⟩:=q.wh Q R;obtain⟨d,v⟩:=XC q A;obtain⟨D,H⟩:=L;have i:Below w.1.size w (w.alloc (.cells (aZz c a cap) 89)):=(Below.refl _ _).alloc (G _) _;have a2:0<=we*qj c k/\we*qj c k<=100000000:=⟨Int.mul_nonneg D d,by have:=Int.mul_le_mul H v d (by omega);omega⟩;have a3:0<=(we+1)*qj c k/\(we+1)*qj c k<=100001000:=⟨Int.mul_nonneg (by omega) d,by have:=Int.mul_le_mul (show we+1<=100001 by omega) v d (by omega);omega⟩;have m:=fun W y=>ze (kX c.s c.le c.la c.wi c.ke c.qu a c.n cap c.F c.W c.K (k:Int) (by omega) (by omega) x W (e.below (w':=W) y));have l:=fun W y=>ze (kX c.s c.le c.la c.wi c.ke c.qu a c.n cap c.F c.W c.K (c.F k) Q R x W (e.below (w':=W) y));have O:xp c.wi c.W (k:Int)=c.wh (k:Int):=rfl;have P:xp c.wi c.W (c.F k)=c.wh (c.F k):=rfl;simp only[O]at m;simp only[P]at l;have Y:Hid (c.wh (k:Int)/c.wh (c.F k)=qj c k):=rfl;have S:=zo w (.cells (aZz c a cap) 89);have qz:=zE w (.cells (aZz c a cap) 89);obtain⟨y0,y1,y2,y3,y4,y5,y6,-⟩:=zc S;obtain⟨b,off,rfl,a0,r⟩:=e.below i (by omega);obtain⟨x0,-,-⟩:=r k A;have a1:(k:Int)<c.n:=by omega
 have f:=ze i;have V:=ze qz;clear r e i O P S;generalize qj c k=M at*;generalize c.wh (k:Int)=wk at*;generalize c.wh (c.F k)=wf at*;go_in;go_wp2_with fail;have q1:w.1.size<w.1.size+1:=by omega
 have q2:b<w.1.size+1:=by omega
 generalize(w.alloc (.cells (aZz c (E (U b off)) cap) 89))=X at*;generalize Z:w.1.size+1=N at*;have J:Nonempty (zm N X):=zm.some _ _;have B:=fun(u:zm N X) b o h=>u.cell b o h;have p:N<=X.1.size:=by rw[ud V];exact G _
 have j:=ze p;have g:Hid (w.1.size<=N):=by show w.1.size<=N;omega
 clear p Z;refine zh N (by kernel_rfl) (by kernel_rfl) ?_;repeat(go_big_quiet_step (first
  |(go_at_call 237;first|(with_reducible exact Calls.later (ud j) (ud (m _ ((ud f).trans (Below.mono (Subtype.property _) (ud g))))))|(with_reducible exact Calls.later (ud j) (ud (l _ ((ud f).trans (Below.mono (Subtype.property _) (ud g)))))))))
 refine wpQuiet_nil ?_;rintro⟨w1,z⟩;clear B J;dsimp only;go_wp2_with fail
 go_ret3
 have hm:=ud Y;rw[hm];have r1:wrap64 (we*M)=we*M:=by unfold wrap64;omega
 have r2:wrap64 ((we+1)*M)=(we+1)*M:=by unfold wrap64;omega
 rw[r1,r2];exact⟨rfl,f.trans (z.mono g)⟩
theorem zog{e:TypeId}{xs:List z1}(h:w.ownsRow base e size v n xs):∀k,v.ownBlock=E k->base<=k:=fun k a=>by
 rcases h.2 with⟨rfl,_⟩|⟨g,cap,b,rfl,c,_⟩
 ·simp[Value.ownBlock]at a
 ·simp[Value.ownBlock]at a;subst a;exact c
def qV(L:LV)(f se a:Int)(j:Nat):List Cl:=(List.range j).filterMap (fun i:Nat=>(vf L ⟨f,se,a+i⟩).map (·.cl))
theorem Vg(L:LV)(f se a:Int)(j:Nat):qV L f se a (j+1)=qV L f se a j++(match vf L ⟨f,se,a+j⟩with|some v=>[v.cl]|none=>[]):=by
 unfold qV;rw[List.range_succ,List.filterMap_append];congr 1;cases h:vf L ⟨f,se,a+j⟩<;>simp[h]
theorem Jy(L:LV)(f se a:Int)(j:Nat):(qV L f se a j).length<=j:=by
 have:=List.length_filterMap_le (fun i:Nat=>(vf L ⟨f,se,a+i⟩).map (·.cl)) (List.range j);simpa[qV]using this
def xM(c:Cf)(L:LV)(se we:Int)(k:Nat):List Cl:=qV L (c.F k) se (we*qj c k) (qj c k).toNat
theorem zgX(h:xK w s c tv lb gb Gl L)(hc:c.ok)(k:Nat)(hk:k<c.n)(se we:Int)(ae:xX se)(a3:0<=we/\we<=100000):
  Calls prog 171 #[(O s),.agg #[I k,I se,I we]] w fun e w'=>∃ad g cap,e=.returned (.slice ad (xM c L se we k).length cap)/\(xM c L se we k≠[]->ad=E (U g 0))/\g<w'.1.size/\CAt w' g (xM c L se we k)/\Below w.1.size w w':=by
 obtain⟨a,cap,rfl⟩:=zq h.trow;have i:=h.lt;have af:=TS.of_owns h.trow;obtain⟨c0,c1,c2,c3,c4,c5,c6,c7,-⟩:=h.cells;obtain⟨ab,ax⟩:=XC hc hk;obtain⟨f1,f2⟩:=hc.F k hk;have aK:=hc.n4;have aM:0<=we*qj c k/\we*qj c k<=100000000:=⟨Int.mul_nonneg a3.1 ab,by have:=Int.mul_le_mul a3.2 ax ab (by omega);omega⟩;have ac:(we+1)*qj c k=we*qj c k+qj c k:=by rw[Int.add_mul,Int.one_mul]
 have J:∀j:Nat,j<=(qj c k).toNat->(qV L (c.F k) se (we*qj c k) j).length<=1000:=fun j hj=>by have:=Jy L (c.F k) se (we*qj c k) j;omega
 have R:=fun W hW=>ze (zfP c hc a cap k hk we a3 W (af.below (w':=W) hW));rw[show xM c L se we k=qV L (c.F k) se (we*qj c k) (qj c k).toNat from rfl];simp only[ac]at R;generalize we*qj c k=A at*;generalize qj c k=M at*;have a4:=ze J;clear J ac;have d:Below w.1.size w (w.alloc (.cells #[I k,I se,I we] 146)):=(Below.refl _ _).alloc (G _) _;have q0:=zo w (.cells #[I k,I se,I we] 146);have qz:=zE w (.cells #[I k,I se,I we] 146);obtain⟨k0,k1,k2,-⟩:=zc q0;have d0:=(d.cell (p:=(U s 0)) i).trans c0;have d1:=(d.cell (p:=(U s 1)) i).trans c1;have d2:=(d.cell (p:=(U s 2)) i).trans c2;have d3:=(d.cell (p:=(U s 3)) i).trans c3;have d4:=(d.cell (p:=(U s 4)) i).trans c4;have d5:=(d.cell (p:=(U s 5)) i).trans c5;have d6:=(d.cell (p:=(U s 6)) i).trans c6;have Q:=ze d;have H:=ze h;have Q0:=ze q0;have BZ:=ze qz;clear h af d q0 c0 c1 c2 c3 c4 c5 c6;go_in;go_wp2_with fail;have q1:w.1.size<w.1.size+1:=by omega
 have q2:s<w.1.size+1:=by omega
 generalize(w.alloc (.cells #[I k,I se,I we] 146))=X at*;generalize hN:w.1.size+1=N at*;have ay:Nonempty (zm N X):=zm.some _ _;have av:=fun(u:zm N X) b o h=>u.cell b o h;have a7:N<=X.1.size:=by rw[ud BZ];exact G _
 have a5:=ze a7;have S:Hid (w.1.size<=N):=by show w.1.size<=N;omega
 have HN:=ze hN;clear a7 hN;refine zh N (by kernel_rfl) (by kernel_rfl) ?_;repeat(go_big_quiet_step (first
  |(go_at_call 232;exact Calls.later a5 (ud (R _ (Q.trans (Below.mono (Subtype.property _) S)))))))
 refine wpQuiet_nil ?_;rintro⟨w1,V⟩;clear av ay;dsimp only;go_wp2_with fail;have r:Below w.1.size w w1:=Q.trans (V.mono S);have a1:w1.1[w.1.size]?=E (.cells #[I k,I se,I we] 146 (0,0)):=(V.block _ (by have:=ud HN;omega)).trans Q0;have ai:=zd a1;have a6:=ze (H.later r);have HQ:=ze a1;have D:=ze r;have a0:=(a6.foot_lt);have aG:=ze a0;have au:lb<w1.1.size:=a0 lb (.inr (.inr (.inl rfl)));clear a1 r a0 V Q R a5 S HN BZ Q0 k0 k1 k2 d0 d1 d2 d3 d4 d5 d6 q1 q2 c7;go_loopw [5,9,10,11] (fun cv wv _ _ wr=>∃j:Nat,j<=M.toNat/\wv=I (A+j)/\wr.ownsRow w1.1.size 115 4 cv (qV L (c.F k) se A j).length ((qV L (c.F k) se A j).flatMap Zr)/\Below w1.1.size w1 wr)
  (fun _ wv _ _ _=>(A+M-intOf wv).toNat)
 case atStart=>exact⟨0,za _,by simp,World.ownsRow_nil _ _ _ _,Below.refl _ _⟩
 case round=>
  obtain⟨j,hj,rfl,hv,hb⟩:=hrel;obtain⟨ad,cp,ag⟩:=zq hv;have aI:=ud a4 j hj;by_cases aJ:j<M.toNat
  ·have aC:A+j<A+M:=(by omega);have f:=a6.later hb;obtain⟨-,-,-,-,-,-,-,x7,-⟩:=f.cells;have aF:=f.lt;have a2:=(hb.block _ ai).trans HQ;obtain⟨-,y1,-⟩:=zc a2;have aE:=zd a2;have m:(⟨c.F k,se,A+j⟩:Sg).wf:=⟨by unfold xX;dsimp only;omega,ae,by unfold xX;dsimp only;omega⟩;obtain⟨l,B⟩:∃l,stX L ⟨c.F k,se,A+j⟩=l:=⟨_,rfl⟩;obtain⟨ok,z⟩:∃ok,(vf L ⟨c.F k,se,A+j⟩).isSome=ok:=⟨_,rfl⟩;have g0:=Xg (X:=wr) f.live (Below.refl _ _) m;have g1:=Xg (X:=wr.drew) f.live (Below.refl _ _).drew m;have g2:=fun o=>Xg (X:=wr.alloc o) f.live ((Below.refl _ _).alloc (G _) o) m;have g3:=fun o=>Xg (X:=(wr.alloc o).drew) f.live ((Below.refl _ _).alloc (G _) o).drew m;have g4:=fun o=>Xg (X:=wr.drew.alloc o) f.live ((Below.refl _ _).drew.alloc (G _) o) m;rw[B,z]at g0 g1;simp only[B,z]at g2 g3 g4;have HV:=ze hv;have HB:=ze hb;have aq:=ze B;have ao:=ze z;subst ag;clear hv hb f a2 m B z;go_wp2_with fail;go_region
   have a8:Below wr.1.size wr ((wr.alloc (.cells (xZz l) 148)).drew):=((Below.refl _ _).alloc (G _) _).drew;have aa:((wr.alloc (.cells (xZz l) 148)).drew).1[wr.1.size]?=E (.cells (xZz l) 148):=zo _ _;have al:((wr.alloc (.cells (xZz l) 148)).drew).1.size=wr.1.size+1:=zE _ _;generalize((wr.alloc (.cells (xZz l) 148)).drew)=Y at*;have y:=ze a8;have an:=ze aa;have ar:=ze al;clear g0 g1 g2 g3 g4 x7 y1 a8 aa al;have hg:qV L (c.F k) se A (j+1)=qV L (c.F k) se A j++(if ok then[l.2.cl]else[]):=by
    rw[Vg];have h1:=ud ao;have h2:=ud aq;unfold stX at h2;cases a9:vf L ⟨c.F k,se,A+j⟩with
    |none=>rw[a9]at h1;simp at h1;subst h1;simp
    |some v=>rw[a9]at h1 h2;simp at h1;subst h1;subst h2;simp
   have ah:=HB.size;cases ok with
   |false=>
    have HG:=ze (show qV L (c.F k) se A (j+1)=qV L (c.F k) se A j by rw[hg];simp);clear hg;go_wp2_with fail;go_roundw;case rel=>
     refine⟨j+1,by omega,by simp;omega,?_,HB.trans (y.mono ah)⟩;rw[ud HG];exact zY HV y
    case measure=>simp[intOf];omega
   |true=>
    have HG:=ze (show qV L (c.F k) se A (j+1)=qV L (c.F k) se A j++[l.2.cl] by rw[hg];simp);clear hg;obtain⟨-,-,-,-,o1,o2,o3,o4,-⟩:=zc an;have aN:wr.1.size<Y.1.size:=(by rw[ud ar];omega);have ap:=ze (zY HV y);go_wp2_with(first|(at_builtin;refine zjq rfl _ _ rfl w1.1.size (.slice ad (qV L (c.F k) se A j).length cp) (qV L (c.F k) se A j) l.2.cl rfl (ap.alloc _) Y.1.size rfl (zo _ _) ?hll ?hbb ?_;(case hll=>omega);(case hbb=>(rw[zE];omega));intro g aB Z P t aD;have am:=ze t;have HO:=ze P;clear t P)|go_in);go_roundw;case rel=>
     have ak:=HB.trans (y.mono ah);have aj:=ak.alloc ak.size (.cells #[I l.2.cl.cnt,I l.2.cl.sum,i_ l.2.cl.mn,i_ l.2.cl.mx] 115);refine⟨j+1,by omega,by simp;omega,?_,aj.grown am aj.size (fun q e=>?_)⟩
     ·rw[ud HG];have:=ud HO;rw[List.length_append,List.length_singleton]at this ⊢;exact this
     ·exact zog HV q e
    case measure=>simp[intOf];omega
  ·obtain rfl:j=M.toNat:=(by omega);have aL:decide (A+(M.toNat:Int)<A+M)=false:=(by simp;omega);subst ag;have HV:=ze hv;have HB:=ze hb;clear hv hb;go_wp2_with fail;go_ret;have hv:=ud HV;have hB:=D.trans (HB.mono D.size);by_cases h0:0<(qV L (c.F k) se A M.toNat).length
   ·obtain⟨g,aA,az,aH,aw⟩:=hv.form h0;cases az;exact⟨_,g,_,rfl,fun _=>rfl,aw,CAt.of_owns hv,hB⟩
   ·have K:qV L (c.F k) se A M.toNat=[]:=List.eq_nil_of_length_eq_zero (by omega);exact⟨_,s,_,rfl,fun hh=>absurd K hh,by have:=H.lt;have:=hB.size;omega,by rw[K];intro j x hx;simp at hx,hB⟩
theorem zla(h:xn yG X lb (vZ L)){k:Sg}(i:k.wf)(d:TypeId):
  ∃o,(Builtin.delete_ #[152,146] d #[.map (E lb),.agg #[I k.t,I k.se,I k.we]]).run prog X=.ok (.tuple #[]) (setBlock X lb o)/\xn yG (setBlock X lb o) lb (vZ (xB L k))/\zj (fun k=>k=lb) X (setBlock X lb o):=by
 obtain⟨es,cl,c,g⟩:=h;obtain⟨a,f,b,j⟩:=YT Xz c g i d;have e:xB (vZ L) k=vZ (xB L k):=by
  unfold xB vZ;rw[List.filter_map];rfl
 rw[e]at b;exact⟨.map a cl,f,⟨a,cl,xL (zd c) _,b⟩,xY _⟩
theorem xK.putLive{f:LV}(h:xK w s c tv lb gb Gl L)(j:xn yG w' lb (vZ f))(b:zj (fun k=>k=lb) w w'):xK w' s c tv lb gb Gl f:=by
 have a:∀{k:Nat} {cs:Array z1} {t:TypeId} {fr:Nat×Nat},w.1[k]?=E (.cells cs t fr)->¬k=lb:=fun b e=>by
  obtain⟨es,cl,i,_⟩:=h.live;rw[e,i]at b;cases b
 refine⟨b.heap h.head (a h.head),zi h.trow b (fun k b=>?_),qF.2 j,h.gone.kept b h.apart,h.apart⟩;obtain⟨g,d⟩:=zG h.trow b;exact a d
theorem xK.putGone{d:List (Sg×Unit)}(h:xK w s c tv lb gb Gl L)(j:xn jE w' gb d)(b:zj (fun k=>k=gb) w w'):xK w' s c tv lb gb d L:=by
 have a:∀{k:Nat} {cs:Array z1} {t:TypeId} {fr:Nat×Nat},w.1[k]?=E (.cells cs t fr)->¬k=gb:=fun b e=>by
  obtain⟨es,cl,i,_⟩:=h.gone;rw[e,i]at b;cases b
 refine⟨b.heap h.head (a h.head),zi h.trow b (fun k b=>?_),h.live.kept b (fun e=>h.apart e.symm),j,h.apart⟩;obtain⟨g,f⟩:=zG h.trow b;exact a f
def xD(x:SX):List z1:=[I x.1.t,I x.1.se,I x.1.we,I x.2.st,I x.2.cl.cnt,I x.2.cl.sum,i_ x.2.cl.mn,i_ x.2.cl.mx]
def Zd(w:z0)(base:Nat)(v:z1)(xs:List SX):Prop:=w.ownsRow base 148 8 v xs.length (xs.flatMap xD)
theorem Zd.slice(h:Zd w base v xs):∃a cap,v=.slice a xs.length cap:=zq h
theorem Zd.at(h:Zd w base (.slice (E (U g 0)) xs.length cap) xs)(b:xs[j]?=E x):
  w.cell? (U g (j*8))=E (I x.1.t)/\w.cell? (U g (j*8+1))=E (I x.1.se)/\w.cell? (U g (j*8+2))=E (I x.1.we)/\w.cell? (U g (j*8+3))=E (I x.2.st)/\
  w.cell? (U g (j*8+4))=E (I x.2.cl.cnt)/\w.cell? (U g (j*8+5))=E (I x.2.cl.sum)/\w.cell? (U g (j*8+6))=E (i_ x.2.cl.mn)/\w.cell? (U g (j*8+7))=E (i_ x.2.cl.mx):=by
 have d:j<xs.length:=(List.getElem?_eq_some_iff.1 b).1;have a:=fun i c=>qs (f:=xD) (k:=8) (fun _=>rfl) xs j x i b c;refine⟨?_,?_,?_,?_,?_,?_,?_,?_⟩
 ·rw[h.cellAt (j*8) (by omega)];exact a 0 (by omega)
 ·rw[h.cellAt (j*8+1) (by omega)];exact a 1 (by omega)
 ·rw[h.cellAt (j*8+2) (by omega)];exact a 2 (by omega)
 ·rw[h.cellAt (j*8+3) (by omega)];exact a 3 (by omega)
 ·rw[h.cellAt (j*8+4) (by omega)];exact a 4 (by omega)
 ·rw[h.cellAt (j*8+5) (by omega)];exact a 5 (by omega)
 ·rw[h.cellAt (j*8+6) (by omega)];exact a 6 (by omega)
 ·rw[h.cellAt (j*8+7) (by omega)];exact a 7 (by omega)
theorem Zd.form{a:Option Addr}(h:Zd w base (.slice a n cap) xs)(e:0<xs.length):∃g,a=E (U g 0)/\n=xs.length/\g<w.1.size:=by
 obtain⟨g,d,c,j,b⟩:=World.ownsRow.form h e;injection c with f i k;exact⟨g,f,i,b⟩
theorem zmP(h:k<l.length):∃x,l[k]?=E x:=⟨_,List.getElem?_eq_getElem h⟩
theorem Qu(h:l[k]?=E x):l.take (k+1)=l.take k++[x]:=by
 rw[List.take_add_one,h];rfl
theorem zma(q:List (Sg×Unit)×LV)(x:SX):(YE q x).1.length<=q.1.length+1/\(YE q x).2.length<=q.2.length+1:=by
 unfold YE;split
 ·refine⟨?_,?_⟩
  ·show(qM q.1 x.1 ()).length<=_;unfold qM;split<;>simp
  ·show(xB q.2 x.1).length<=_;have:=List.length_filter_le (fun p:Sg×SV=>decide (p.1≠x.1)) q.2;unfold xB;omega
 ·exact⟨Nat.le_succ _,zlZ _ _ _⟩
theorem V6:∀(xs:List SX) (q:List (Sg×Unit)×LV),(vj q xs).1.length<=q.1.length+xs.length/\(vj q xs).2.length<=q.2.length+xs.length
 |[],q=>by simp[vj]
 |x::xs,q=>by
  have a:=V6 xs (YE q x);have b:=zma q x;simp only[vj,List.foldl_cons,List.length_cons]at*;omega
theorem zmc{q:List (Sg×Unit)×LV}(h:xK X s c tv lb gb q.1 q.2)(a:q.2.length<maxLen)(i:x.1.wf)(g:(x.2.st==4)=false):
  ∃o,(Instr.mapUpdate 152 (.map (E lb)) (.agg #[I x.1.t,I x.1.se,I x.1.we]) (.agg (xZz x))).run prog X=.ok () (setBlock X lb o)/\xK (setBlock X lb o) s c tv lb gb (YE q x).1 (YE q x).2/\zj (fun k=>k=lb\/k=gb) X (setBlock X lb o):=by
 obtain⟨o,b,d,f,-⟩:=zgU h a i x.2;have e:YE q x=(q.1,km q.2 x.1 x.2):=by unfold YE;rw[if_neg (by simpa using g)]
 refine⟨o,b,by rw[e];exact d,f.mono (fun k _ e=> .inl e)⟩
theorem zmb{q:List (Sg×Unit)×LV}(h:xK X s c tv lb gb q.1 q.2)(a:q.1.length<maxLen)(p:x.1.wf)(u:(x.2.st==4)=true)(r:TypeId):
  ∃o j,(Builtin.delete_ #[152,146] r #[.map (E lb),.agg #[I x.1.t,I x.1.se,I x.1.we]]).run prog X=.ok (.tuple #[]) (setBlock X lb o)/\xK (setBlock X lb o) s c tv lb gb q.1 (xB q.2 x.1)/\zj (fun k=>k=lb) X (setBlock X lb o)/\
   (Instr.mapUpdate 153 (.map (E gb)) (.agg #[I x.1.t,I x.1.se,I x.1.we]) (.agg #[])).run prog (setBlock X lb o).drew=.ok () (setBlock (setBlock X lb o).drew gb j)/\xK (setBlock (setBlock X lb o).drew gb j) s c tv lb gb (YE q x).1 (YE q x).2/\zj (fun k=>k=gb) (setBlock X lb o).drew (setBlock (setBlock X lb o).drew gb j):=by
 obtain⟨o,i,m,f⟩:=zla (X:=X) (qF.1 h.live) p r;have l:=h.putLive m f;have d:Below (setBlock X lb o).1.size (setBlock X lb o) (setBlock X lb o).drew:=(Below.refl _ _).drew;obtain⟨j,b,n,g,_⟩:=zpA (X:=(setBlock X lb o).drew) (l.later d).gone a p;have e:YE q x=(qM q.1 x.1 (),xB q.2 x.1):=by unfold YE;rw[if_pos (by simpa using u)]
 exact⟨o,j,i,l,f,b,by rw[e];exact(l.later d).putGone n g,g⟩
theorem Zq{α β:Type}{M:MK α β}{L:List (α×β)}(h:xn M w b L){cs:Array z1}{t:TypeId}(a:w.1[k]?=E (.cells cs t fr)):¬k=b:=fun e=>by
 obtain⟨es,cl,c,_⟩:=h;rw[e,c]at a;cases a
theorem zlW(h:xK w s c tv lb gb Gl L)(xs:List SX)(a0:∀x∈xs,x.1.wf)(a7:Gl.length+xs.length<=1000000000)(a8:L.length+xs.length<=1000000000)(base:Nat)(v:z1)(hv:Zd w base v xs):
  Calls prog 170 #[(O s),v] w fun e w'=>e=.returned (.tuple #[])/\xK w' s c tv lb gb (vj (Gl,L) xs).1 (vj (Gl,L) xs).2/\zj (fun k=>k=lb\/k=gb) w w':=by
 obtain⟨ad,cap,rfl⟩:=hv.slice;have W:∀k,(Value.slice ad xs.length cap).ownBlock=E k->¬(k=lb\/k=gb):=fun k hk e=>by
  obtain⟨a4,hc⟩:=zG hv hk;rcases e with e|e
  ·exact Zq (qF.1 h.live) hc e
  ·exact Zq h.gone hc e
 have ah:¬s=lb:=Zq (qF.1 h.live) h.head;have ag:¬s=gb:=Zq h.gone h.head;have HS:=ze h;have HV:=ze hv;have a1:=ze W;have a2:=ze a0;have aa:xs.length<=1000000000:=by omega
 clear h hv W a0;go_in;go_wp2_with fail;go_loopw [8] (fun i wr=>∃k:Nat,k<=xs.length/\i=I k/\xK wr s c tv lb gb (vj (Gl,L) (xs.take k)).1 (vj (Gl,L) (xs.take k)).2/\zj (fun k=>k=lb\/k=gb) w wr) (fun i _=>xs.length-(intOf i).toNat);case atStart=>exact⟨0,za _,rfl,by simpa[vj]using ud HS,zj.refl _ _⟩
 case round=>
  obtain⟨k,hk,rfl,S,m⟩:=hrel;by_cases a3:k<xs.length
  ·obtain⟨x,hx⟩:=zmP a3;have K:Zd wr base (.slice ad xs.length cap) xs:=zi HV m a1;obtain⟨g,rfl,-,a5⟩:=K.form (by omega);obtain⟨x0,x1,x2,x3,x4,x5,x6,x7⟩:=K.at hx;have hq:=V6 (xs.take k) (Gl,L);rw[List.length_take]at hq;obtain⟨q,J⟩:∃q,vj (Gl,L) (xs.take k)=q:=⟨_,rfl⟩;have HQ:=ze J;rw[J]at S hq;have M:=ud a2 x (List.mem_of_getElem? hx);have HX:=ze hx;obtain⟨X,n⟩:∃X,(wr.alloc (.cells (xZz x) 148))=X:=⟨_,rfl⟩;have B:Below wr.1.size wr X:=(by rw[<-n];exact(Below.refl _ _).alloc (G _) _);have p:X.1[wr.1.size]?=E (.cells (xZz x) 148 (0,0)):=(by rw[<-n];exact zo _ _);have j:=S.later B;obtain⟨-,-,-,-,-,-,-,c7,c8⟩:=j.cells;obtain⟨y0,y1,y2,y3,y4,y5,y6,y7,-⟩:=zc p;have A:Below X.1.size X X.drew:=(Below.refl _ _).drew;have F:zj (fun k=>k=lb\/k=gb) w X.drew:=(m.trans (zj.of_below (f:=fun _=>False) B) (fun _ _ e=>e.elim)).drew;have ae:=j.lt;have H:=zd p;have a9:=j.live.lt;have R:¬wr.1.size=lb:=Zq (qF.1 j.live) p;have a6:(k:Int)<xs.length:=(by omega);have U:=ze n;obtain⟨P,Q⟩:=hq;cases he:(x.2.st==4)
   ·obtain⟨o,u,z,N⟩:=zmc (X:=X.drew) (j.later A) (by simp only[maxLen];dsimp only at Q;omega) M he;obtain⟨Y,r⟩:∃Y,setBlock X.drew lb o=Y:=⟨_,rfl⟩;rw[r]at u z N;have d:Hid (xK Y s c tv lb gb (YE q x).1 (YE q x).2/\zj (fun k=>k=lb\/k=gb) w Y):=⟨z,F.trans N (fun _ _ e=>e)⟩;clear z N F A j p B n K S m hx M J r P Q;go_wp2_with fail;rw[ud U];go_wp2_with fail;go_region
    go_wp2_with fail;go_roundw;case rel=>exact⟨k+1,by omega,by go_num,by rw[Qu (ud HX),QY,ud HQ];exact d.1,d.2⟩
    case measure=>simp[intOf];omega
   ·obtain⟨o,o2,u,a,l,y,b,D⟩:=zmb (X:=X.drew) (j.later A) (by simp only[maxLen];dsimp only at P;omega) M he 0;obtain⟨Y,r⟩:∃Y,setBlock X.drew lb o=Y:=⟨_,rfl⟩;rw[r]at u a l y b D;obtain⟨Z,V⟩:∃Z,setBlock Y.drew gb o2=Z:=⟨_,rfl⟩;rw[V]at y b D;obtain⟨-,-,-,-,-,-,-,-,d8⟩:=a.cells;have ai:Cz Y wr.1.size 0 (I x.1.t):=(zD (i:=0) l R H).trans y0;have aj:Cz Y wr.1.size 1 (I x.1.se):=(zD (i:=1) l R H).trans y1;have ak:Cz Y wr.1.size 2 (I x.1.we):=(zD (i:=2) l R H).trans y2;have af:=a.lt;have ac:wr.1.size<Y.1.size:=z6 H l.size;have d:Hid (xK Z s c tv lb gb (YE q x).1 (YE q x).2/\zj (fun k=>k=lb\/k=gb) w Z):=⟨b,((F.trans (l.mono (fun k _ e=> .inl e)) (fun _ _ e=>e)).drew).trans (D.mono (fun k _ e=> .inr e)) (fun _ _ e=>e)⟩;clear a b l D F A j p B n K S m hx M J r V P Q;go_wp2_with fail;rw[ud U];go_wp2_with fail;go_region
    go_wp2_with fail;go_region
    go_wp2_with fail;go_roundw;case rel=>exact⟨k+1,by omega,by go_num,by rw[Qu (ud HX),QY,ud HQ];exact d.1,d.2⟩
    case measure=>simp[intOf];omega
  ·obtain rfl:k=xs.length:=(by omega);have ab:decide ((xs.length:Int)<xs.length)=false:=(by simp);rw[List.take_length]at S;have HR:=ze S;have HK:=ze m;clear S m;go_wp2_with fail;go_end0;exact⟨rfl,HR,HK⟩
def XAt(w:z0)(g j:Nat)(x:SX):Prop:=
  w.cell? (U g (j*8))=E (I x.1.t)/\w.cell? (U g (j*8+1))=E (I x.1.se)/\w.cell? (U g (j*8+2))=E (I x.1.we)/\w.cell? (U g (j*8+3))=E (I x.2.st)/\
  w.cell? (U g (j*8+4))=E (I x.2.cl.cnt)/\w.cell? (U g (j*8+5))=E (I x.2.cl.sum)/\w.cell? (U g (j*8+6))=E (i_ x.2.cl.mn)/\w.cell? (U g (j*8+7))=E (i_ x.2.cl.mx)
def SRd(w:z0)(v:z1)(xs:List SX):Prop:=∃a cap,v=.slice a xs.length cap/\(0<xs.length->∃g,a=E (U g 0)/\g<w.1.size/\∀j x,xs[j]?=E x->XAt w g j x)
theorem Zd.rd(h:Zd w base v xs):SRd w v xs:=by
 obtain⟨a,cap,rfl⟩:=h.slice;refine⟨a,cap,rfl,fun b=>?_⟩;obtain⟨g,rfl,-,c⟩:=h.form b;exact⟨g,rfl,c,fun j x d=>h.at d⟩
theorem XAt.later(h:XAt w g j x)(n:Below w.1.size w w')(o:g<w.1.size):XAt w' g j x:=by
 obtain⟨a,b,c,d,f,k,l,m⟩:=h;have e:=fun i=>n.cell (p:=(U g i)) o;exact⟨(e _).trans a,(e _).trans b,(e _).trans c,(e _).trans d,(e _).trans f,(e _).trans k,(e _).trans l,(e _).trans m⟩
theorem SRd.later(h:SRd w v xs)(b:Below w.1.size w w'):SRd w' v xs:=by
 obtain⟨a,cap,e,h⟩:=h;refine⟨a,cap,e,fun f=>?_⟩;obtain⟨g,d,c,k⟩:=h f;exact⟨g,d,z6 c b.size,fun j x i=>(k j x i).later b c⟩
theorem SRd.slice(h:SRd w v xs):∃a cap,v=.slice a xs.length cap:=by
 obtain⟨a,cap,e,-⟩:=h;exact⟨a,cap,e⟩
theorem SRd.form{a:Option Addr}(h:SRd w (.slice a n cap) xs)(i:0<xs.length):∃g,a=E (U g 0)/\n=xs.length/\g<w.1.size/\∀j x,xs[j]?=E x->XAt w g j x:=by
 obtain⟨a',b,e,h⟩:=h;obtain⟨g,c,k,l⟩:=h i;injection e with d f m;exact⟨g,d.trans c,f,k,l⟩
section
variable {P:Program} {ops:Array Oper} {md:Region.Mode} {w:z0} {n:Nat} {l:Nat}
theorem Vi{o:Oper}(h:o.still P a w K):∀c,o.op≠ .defer c:=fun c e=>by
 unfold Oper.still execOp at h;rw[e]at h;simp only[Oper.stillUpon]at h
 revert h
 generalize b:(resolve a.eval c o.type).run P w=r;cases r with
 |ok d w'=>simp[b]
 |halt x w'=>simp[b]
theorem zaS{o:Oper}(h:∀a,K a->K' a w)(b:o.still P a w K):o.wpIn (Fence.wide.inRound l) n P a w K' Q':=by
 have c:=Vi b;unfold Oper.still at b;unfold Oper.wpIn;refine⟨fun _ _=>trivial,?_⟩;rw[Oper.semAt_eq _ _ _ c];generalize(execOp a.eval o).run P w=r at*;cases r with
 |ok k w'=>
  cases k<;>simp only[Oper.stillUpon]at b<;>simp only[Oper.uponIn];case enter f args=>
   obtain⟨rfl,v,g,hn⟩:=b;exact⟨fun e=>by simp[Fence.inRound,Fence.wide]at e,(CallsIn.inRound l (callsIn_wide.2 g)).mono fun e m ⟨i,j⟩=>by subst i;subst j;exact h _ hn⟩
  all_goals(obtain⟨rfl,d⟩:=b;exact h _ d)
 |halt x w'=>simp only[Oper.stillUpon]at b
theorem zcA(h:∀a,K a->K' a w)(b:stOp P ops w i K a):wpOpIn (Fence.wide.inRound l) n P ops Q' i K' a w:=by
 unfold stOp at b;unfold wpOpIn;split
 ·rename_i ho;simp only[ho]at b;exact h _ b
 ·rename_i o ho;simp only[ho]at b;split
  ·rename_i hw;simp only[hw,if_true]at b;exact zaS h b
  ·rename_i hw;simp only[hw]at b;exact⟨fun _ _=>trivial,h _ b⟩
theorem XV{k g:Nat}{L:Array Bool->Act->Prop}{Q':Exit->Act->z0->Prop}(c:∀b a,L b a->wpAnyIn (Fence.wide.inRound l) n P md ops Q' g b a w):
  ∀(f:Nat) (b:Array Bool) (a:Act),wpAnyL P md ops w k L f b a->wpAnyIn (Fence.wide.inRound l) n P md ops Q' (f+g) b a w
 |0,b,a,h=>by rw[Nat.zero_add];exact c _ _ h
 |f+1,b,a,h=>by
  rw[show f+1+g=(f+g)+1 by omega];exact⟨fun e=>absurd e h.1,fun i j=>zcA (fun a' d=>XV c f _ a' d) (h.2 i j).2⟩
theorem Yb{F:Fence}{Q':Exit->Act->z0->Prop}:∀(ls:List Oper) (k:Nat) (b:Array Bool) (a:Act) (w:z0),(∀j,ls[j]?=ops[k+j]?)->
  Region.seqB md ops ls.length k b=true->wpListIn F n P ops Q' ls a w->wpAnyIn F n P md ops Q' ls.length b a w
 |[],_,_,_,_,_,c,h=>⟨by simpa[Region.seqB]using c,h⟩
 |o::ls,k,b,a,w,g,c,h=>by
  have m:ops[k]?=E o:=by simpa using(g 0).symm
  simp only[List.length_cons,Region.seqB,Bool.and_eq_true,decide_eq_true_eq]at c;refine⟨fun e=>(by rw[c.1]at e;cases e),fun i f=>?_⟩;rw[c.1]at f;have d:i=k:=by simpa using f
  subst d;have p:wpOpIn F n P ops Q' i (wpListIn F n P ops Q' ls) a w:=by unfold wpOpIn;simp only[m];exact h
  exact wpOpIn_mono (fun a' w' l=>Yb ls (i+1) _ a' w' (fun j=>by have:=g (j+1);simpa[Nat.add_assoc,Nat.add_comm 1 j]using this) c.2 l) p
theorem Xm{w:z0}(k:Nat)(u:P.follows .mixedOrders=true)(o:Region.lexTailB .any ls.toArray k=true)(h:wpStill P ls.toArray w.drew (fun a'=>wpListIn (Fence.wide.inRound l) n P ls.toArray Q (ls.drop k) a' w.drew) (ls.take k) a):(Code.region id ls.toArray true).wpIn (Fence.wide.inRound l) n P Q a w:=by
 simp only[Region.lexTailB,Bool.and_eq_true,decide_eq_true_eq]at o;obtain⟨⟨⟨⟨f,hn⟩,x⟩,s⟩,e⟩:=o;have v:k<ls.length:=by simpa using hn
 have b:(ls.take k).length=k:=by simp;omega
 have d:(ls.drop k).length=ls.toArray.size-k:=by simp
 have i:HeadInv .any ls.toArray k (Array.replicate ls.toArray.size false):=
  ⟨by simp,fun j z _ r=>(by rw[getD_replicate_false]at r;cases r),fun t _ y=>getD_in (by simpa using y) (getD_replicate_false _ _)⟩
 have H:=wpAnyL_lex (md:=.any) (g:=ls.toArray.size-k) f x s hn (ls.take k) 0 _ a (fun j q=>by
  have m:j<k:=by rw[b]at q;exact q
  simp[m]) (by simpa using b) i (by rw[b];exact e) h
 refine wpIn_region_any u ?_;have:=XV (l:=l) (n:=n) (Q':=Q) (g:=ls.toArray.size-k) (fun c a' p=>by
  have:=Yb (F:=Fence.wide.inRound l) (n:=n) (md:=.any) (Q':=Q) (ls.drop k) k c a' w.drew (fun j=>by simp[List.getElem?_drop]) (by rw[d];exact p.1) p.2;rwa[d]at this) _ _ _ H
 rw[b,show k+(ls.toArray.size-k)=ls.toArray.size by omega]at this;exact this
theorem qP{w:z0}(k:Nat)(c:P.follows .mixedOrders=true)(b:Region.lexTailB .any ls.toArray k=true)(h:wpStill P ls.toArray w.drew (fun a'=>wpList P ls.toArray Q (ls.drop k) a' w.drew) (ls.take k) a):(Code.region id ls.toArray true).wp P Q a w:=wp_region_still_tail k c b h
end
end Go.Proofs.YtndhpgciopcncaaGreatDoor
namespace Go.Proofs.YtndhpgciopcncaaGreatDoor.Dr
open Go.RowKit Go.Maps Go.Shelf
structure Below(B:Nat)(w w':z0):Prop where
 bel:Go.RowKit.Below B w w'
 more:w.drawn<=w'.drawn
theorem Below.size{B:Nat}{w w':z0}(h:Below B w w'):w.1.size<=w'.1.size:=h.bel.size
theorem Below.block{B:Nat}{w w':z0}(h:Below B w w'):∀k,k<B->w'.1[k]?=w.1[k]?:=h.bel.block
theorem Below.cell{B:Nat}{w w':z0}(h:Below B w w'){p:Addr}(a:p.block<B):w'.cell? p=w.cell? p:=h.bel.cell a
theorem Below.refl(B:Nat)(w:z0):Below B w w:=⟨Go.RowKit.Below.refl _ _,G _⟩
theorem Below.trans{B:Nat}{a b c:z0}(h:Below B a b)(k:Below B b c):Below B a c:=⟨h.bel.trans k.bel,zb h.more k.more⟩
theorem Below.mono{B B':Nat}{w w':z0}(h:Below B w w')(a:B'<=B):Below B' w w':=⟨h.bel.mono a,h.more⟩
theorem Below.drew{B:Nat}{a w:z0}(h:Below B a w):Below B a w.drew:=⟨h.bel.drew,zb h.more (Nat.le_succ _)⟩
theorem Below.alloc{B:Nat}{a w:z0}(h:Below B a w)(b:B<=w.1.size)(o:Obj):Below B a (w.alloc o):=⟨h.bel.alloc b o,h.more⟩
theorem Qr(w:z0)(p:Addr)(u:z1):(w.setCell p u).drawn=w.drawn:=by
 unfold World.setCell;repeat' split;all_goals rfl
theorem Below.setCell{B:Nat}{a w:z0}(h:Below B a w){p:Addr}(b:B<=p.block)(u:z1):Below B a (w.setCell p u):=⟨h.bel.setCell b u,by rw[Qr];exact h.more⟩
theorem Below.heap_alloc(w:z0)(o:Obj)(k:Nat)(h:k<w.1.size):(w.alloc o).1[k]?=w.1[k]?:=Go.RowKit.Below.heap_alloc w o k h
theorem Below.heap_setCell(w:z0)(a:Addr)(u:z1)(k:Nat)(h:k≠a.block):(w.setCell a u).1[k]?=w.1[k]?:=Go.RowKit.Below.heap_setCell w a u k h
theorem box2(w:z0)(a b:Obj):((w.alloc a).alloc b).1[w.1.size]?=E a/\((w.alloc a).alloc b).1[w.1.size+1]?=E b/\Below w.1.size w ((w.alloc a).alloc b)/\((w.alloc a).alloc b).1.size=w.1.size+2:=by
 obtain⟨c,d,e,f⟩:=YtndhpgciopcncaaGreatDoor.box2 w a b;exact⟨c,d,⟨e,G _⟩,f⟩
theorem below4{B:Nat}{w:z0}{g:Nat}(h:B<=g)(a b c d:z1):Below B w ((((w.setCell (U g 0) a).setCell (U g 1) b).setCell (U g 2) c).setCell (U g 3) d):=⟨YtndhpgciopcncaaGreatDoor.below4 h a b c d,by simp only[Qr];exact G _⟩
end Go.Proofs.YtndhpgciopcncaaGreatDoor.Dr
namespace Go.Proofs.YtndhpgciopcncaaGreatDoor
section
open Go.RowKit Go.Maps Go.Shelf
theorem Dr.Below.lays{w w':z0}(h:Dr.Below w.1.size w w'):∃q os,w'=Go.Sort.grow (w.drewN q) os:=by
 obtain⟨⟨a,b,c,e,d⟩,f⟩:=h;refine⟨w'.drawn-w.drawn,w'.heap.extract w.1.size w'.1.size,?_⟩;obtain⟨j,l,g,os,k⟩:=w';dsimp only at a b c e d f ⊢;subst a b c;unfold Go.Sort.grow World.drewN;dsimp only;congr 1
 ·apply Array.ext_getElem?;intro i;rw[Array.getElem?_append];split
  ·rename_i hi;exact d i hi
  ·rename_i hi;rw[Array.getElem?_extract];split
   ·congr 1;omega
   ·rw[Array.getElem?_eq_none];omega
 ·omega
end
section
open Go.ChangeMaps (setBlock)
open Go.RowKit Go.Maps Go.Shelf
variable {a:Cl} {g:Nat} {x:Nm} {w:z0}
def zeM(x y:Sg):Int:=orL [jh x.t y.t,jh x.se y.se,jh x.we y.we]
theorem Y7(x y:Sg)(w:z0):Calls prog 166 #[.agg #[I x.t,I x.se,I x.we],.agg #[I y.t,I y.se,I y.we]] w fun e w'=>e=.returned (I (zeM x y))/\Dr.Below w.1.size w w':=by
 obtain⟨i,j,g,r⟩:=Dr.box2 w (.cells #[I x.t,I x.se,I x.we] 146) (.cells #[I y.t,I y.se,I y.we] 146);obtain⟨Y,f⟩:∃Y,((w.alloc (.cells #[I x.t,I x.se,I x.we] 146)).alloc (.cells #[I y.t,I y.se,I y.we] 146))=Y:=⟨_,rfl⟩;rw[f]at i j g r;obtain⟨N,O,P,-⟩:=zc i;obtain⟨Q,R,S,-⟩:=zc j;have m:=fun(a b:Int) W=>ze (vr a b W);have d:∀W:z0,W.1[Y.1.size]?=E (.cells #[I (jh x.t y.t),I (jh x.se y.se),I (jh x.we y.we)] 3)->Hid (Calls prog 163 #[.slice (E (U Y.1.size 0)) 3 3] W fun e w'=>e=.returned (I (zeM x y))/\w'=W):=fun W z=>
  ziU [jh x.t y.t,jh x.se y.se,jh x.we y.we] (by simp) W Y.1.size (fun k v c=>by
   rw[xd z]
   match k,c with
   |0,c=>simp at c;subst c;rfl
   |1,c=>simp at c;subst c;rfl
   |2,c=>simp at c;subst c;rfl)
 have n:=d (Y.alloc (.cells #[I (jh x.t y.t),I (jh x.se y.se),I (jh x.we y.we)] 3)) (zo _ _);have o:=d (Y.alloc (.cells #[I (jh x.t y.t),I (jh x.se y.se),I (jh x.we y.we)] 3)).drew (zo _ _);have p:=d (Y.drew.alloc (.cells #[I (jh x.t y.t),I (jh x.se y.se),I (jh x.we y.we)] 3)) (zo Y.drew _);have F:=zd i;have H:=zd j;have l:=ze g;have q:=ze f;clear i j d g f r;generalize h:zeM x y=J at*;have u:=ze h;clear h;generalize A:jh x.t y.t=K at*;generalize B:jh x.se y.se=L at*;generalize D:jh x.we y.we=M at*;go_in;go_wp2_with fail;rw[ud q];go_region_held3 (fun w'=>w'.cell? (U w.1.size 0)=E (I x.t)/\w'.cell? (U w.1.size 1)=E (I x.se)/\w'.cell? (U w.1.size 2)=E (I x.we)/\w'.cell? (U (w.1.size+1) 0)=E (I y.t)/\w'.cell? (U (w.1.size+1) 1)=E (I y.se)/\w'.cell? (U (w.1.size+1) 2)=E (I y.we)) (go_keep) (first
  |(go_at_call 162;(with_reducible refine(ud (m _ _ _)).mono ?_);rintro e V ⟨rfl,rfl⟩)
  |(go_at_call 163;(first|(with_reducible refine(ud n).mono ?_)|(with_reducible refine(ud o).mono ?_)|(with_reducible refine(ud p).mono ?_));rintro e V ⟨rfl,rfl⟩))
 go_wp2_with fail;go_ret;have s:=ud l;exact⟨rfl,(s.alloc s.size _).drew⟩
theorem zkQ(x y:SX)(w:z0):Calls prog 210 #[.agg (xZz x),.agg (xZz y)] w fun e w'=>e=.returned (I (zeM x.1 y.1))/\Dr.Below w.1.size w w':=by
 obtain⟨d,f,b,h⟩:=Dr.box2 w (.cells (xZz x) 148) (.cells (xZz y) 148);obtain⟨Y,a⟩:∃Y,((w.alloc (.cells (xZz x) 148)).alloc (.cells (xZz y) 148))=Y:=⟨_,rfl⟩;rw[a]at d f b h;obtain⟨n,o,p,-⟩:=zc d;obtain⟨q,r,s,-⟩:=zc f;have j:=ze (Y7 x.1 y.1 Y);have l:=zd d;have m:=zd f;have c:=ze b;have g:=ze a;clear d f b a h;go_in;go_wp2_with fail;rw[ud g];go_wp2_with(go_at_call 166;refine j.mono ?_;rintro e V ⟨rfl,i⟩;have k:=ze i;clear i);go_ret;exact⟨rfl,c.trans (k.mono c.size)⟩
theorem zdx(x y:Sg):zeM x y<0↔(x.t<y.t\/x.t=y.t/\(x.se<y.se\/x.se=y.se/\x.we<y.we)):=by
 unfold zeM;simp only[orL,jh];repeat' split
 all_goals omega
theorem zlO:Go.Sort.SWO (fun x y:SX=>decide (zeM x.1 y.1<0)) where
 irrefl x:=by simp only[decide_eq_false_iff_not,zdx];omega
 trans x y z h1 h2:=by simp only[decide_eq_true_eq,zdx]at*;omega
 ntrans x y z h1 h2:=by simp only[decide_eq_false_iff_not,zdx]at*;omega
attribute [local go_sem] Oper.semAt_some
theorem zlw{α:Type}(c:α->Tsk)(k:Tsk->α)(l Bm b:Nat)(L:List (Jk×Tsk))(ab:∀p∈L,c (k p.2)=p.2)(J Jx:List α->z0->Prop)(W:z0)(hJ:OwnFrom W.1.size J)(N:OwnFrom W.1.size Jx)(hY:∀f x V,J f V->f.length<L.length->YieldAt Fence.wide 5 prog l #[.agg #[.iface (c x).jt (.agg #[I (c x).s.t,I (c x).s.se,I (c x).s.we]),I (c x).si,I (c x).tc,I (c x).rest]] V fun e V'=>(e=.returned (.bool true)/\J (f++[x]) V'/\KeepsWalks V V')\/(e=.returned (.bool false)/\Jx (f++[x]) V'/\KeepsWalks V V'))(hm:W.cell? (U Bm 0)=E (.map (E b)))(a1:xn qh W b L)(h0:J [] W):
  CallsIn Fence.wide 6 prog 158 #[.func (.yield l) #[] #[],(O Bm)] W fun e W'=>(∃v,e=.returned v)/\
   ((∃xs,(∃ps:List (Jk×Tsk),ps.Perm L/\xs=ps.map (fun p:Jk×Tsk=>k p.2))/\J xs W')\/(∃f,True/\Jx f W')):=by
 obtain⟨es,clock,hb,Z⟩:=a1;have a9:=zd hb;have d:=run_range_map (P:=prog) W 169 _ _ b es clock underlying169 hb;have HE:=ze Z;have m:=ze hJ;have ae:=Z.count;refine callsIn_of_wp func158 rfl trivial ?_ rfl;simp only[ntmps158,sZz,Nat.reduceAdd,Nat.reduceSub];gi_wp2;gi_loopw [4] (fun _ wr=>∃(seen:Array Nat) (K:Nat) (ps:List MapEntry),wr.1[W.1.size]?=E (.mapIter (E b) clock seen K)/\clock<=K/\wr.1[b]?=E (.map es clock)/\zee es seen ps/\J ((ps.map (kH qh L)).map (fun p:Jk×Tsk=>k p.2)) wr)
  (fun _ wr=>Zc es W.1.size wr)
 case atStart=>
  exact⟨#[],clock,[],zo _ _,G _,(Below.heap_alloc _ _ _ a9).trans hb,⟨by simp,by simp,by simp⟩,xc (ud m) h0 ((Below.refl _ _).alloc (G _) _)⟩
 case round=>
  obtain⟨seen,K,ps,B,aa,q,hC,M⟩:=hrel;have ad:=zd B;have HC:=ze hC;rcases run_next_at (P:=prog) wr 0 W.1.size b clock K seen es clock B q (ud HE).born aa with⟨hz,a⟩|⟨e,h,w1,i,a⟩
  ·have HZ:=ze hz;clear d hz hC Z hJ N;gi_wp2;go_end0;exact⟨⟨_,rfl⟩,.inl ⟨_,⟨_,jR yZ HE (HC.all HE.once HZ),rfl⟩,M⟩⟩
  ·have D:=ze h;obtain⟨u,_⟩:=xH.1 h;have a2:w1.1[W.1.size]?=E (.mapIter (E b) clock seen K):=(by rcases i with rfl|rfl<;>exact B);have R:w1.1[b]?=E (.map es clock):=(by rcases i with rfl|rfl<;>exact q);have ac:b≠W.1.size:=(by omega);obtain⟨X,A⟩:∃X,setBlock w1 W.1.size (.mapIter (E b) clock (seen.push e.born) clock)=X:=⟨_,rfl⟩;have o:X.1[W.1.size]?=E (.mapIter (E b) clock (seen.push e.born) clock):=(by rw[<-A];exact xL (zd a2) _);have n:X.1[b]?=E (.map es clock):=(by rw[<-A,xr ac];exact R);have a0:wr.grownBy X (E W.1.size):=by
    rw[<-A];rcases i with rfl|rfl
    ·exact xA _ _ _
    ·have:=xA wr.drew W.1.size (.mapIter (E b) clock (seen.push e.born) clock);exact⟨this.os,this.tape,this.output,this.size,this.block⟩
   rw[A]at a;have j:=run_entry_at (P:=prog) X W.1.size b clock seen es clock e o n u HE.once;obtain⟨Y,hk,hv⟩:=Xc yZ Z u;have g:e.val=Qw (c (k (kH qh L e).2)):=(by rw[ab _ Y];exact hv);unfold Qw at g;rw[g]at a j;have a7:J ((ps.map (kH qh L)).map (fun p:Jk×Tsk=>k p.2)) X:=ud m _ wr X (E W.1.size) M a0 (fun r e=>by cases e;exact⟨G _,_,B,rfl⟩);obtain⟨y,z⟩:∃y,k (kH qh L e).2=y:=⟨_,rfl⟩;have a5:Hid ((fun p:Jk×Tsk=>k p.2) (kH qh L e)=y):=z;rw[z]at a j;have S:=(Below.refl X.1.size X).alloc (G _) (.cells #[.iface (c y).jt (.agg #[I (c y).s.t,I (c y).s.se,I (c y).s.we]),I (c y).si,I (c y).tc,I (c y).rest] 177);obtain⟨fn,tmps,assign,body,hy,hR⟩:=hY ((ps.map (kH qh L)).map (fun p:Jk×Tsk=>k p.2)) y _ (xc (ud m) a7 S) (by rw[List.length_map,List.length_map];have:=hC.lt h;omega);have H:=ze o;have F:=ze n;have HX:=ze A;have a4:=ze B;clear d hC Z o n A u a2 R hv hk a0 g B q h i Y z S hJ N;gi_wp2;refine hR.mono ?_;rintro e3 W3 (⟨rfl,a6,w⟩|⟨rfl,Q,w⟩)
   ·gi_wp2;have a3:=w.same W.1.size _ ((Below.heap_alloc _ _ _ (zd H)).trans H) rfl;have a8:=w.same b _ ((Below.heap_alloc _ _ _ (zd F)).trans F) rfl;go_roundw;case rel=>exact⟨_,_,ps++[e],a3,G _,a8,(ud HC).step (ud D),by rw[List.map_append,List.map_append,List.map_singleton,List.map_singleton,ud a5];exact a6⟩
    case measure=>rw[xw a3,xw (ud a4)];exact qT D
   ·gi_wp2;refine bodyPost_ret (results_none rfl _ _ _) rfl ?_;exact⟨⟨_,rfl⟩,.inr ⟨_,trivial,Q⟩⟩
theorem znJ{α:Type}(a:α->Tsk)(g:Tsk->α)(Bm b:Nat)(L:List (Jk×Tsk))(f:∀p∈L,a (g p.2)=p.2)(w:z0)(d:Bm<w.1.size)(n:w.cell? (U Bm 0)=E (.map (E b)))(c:xn qh w b L):
  Yy Fence.wide 6 prog 158 #[(O Bm)] (fun x:α=>#[.agg #[.iface (a x).jt (.agg #[I (a x).s.t,I (a x).s.se,I (a x).s.we]),I (a x).si,I (a x).tc,I (a x).rest]]) KeepsWalks (fun xs=>∃ps:List (Jk×Tsk),ps.Perm L/\xs=ps.map (fun p:Jk×Tsk=>g p.2)) (fun _=>True) L.length 0 w:=
 fun l J i W h _ k e m j=>zlw a g l Bm b L f J i W k e m ((h.cell (p:=(U Bm 0)) d).trans n) (c.later h) j
def VH(x:Tsk):List z1:=[(jZz x),I x.si,I x.tc,I x.rest]
theorem zaO(x:Tsk):(VH x).length=4:=rfl
theorem zfm(x:Tsk):∀v∈VH x,v.oneCell'=true:=fun v hv=>by
 simp only[VH,List.mem_cons,List.not_mem_nil,or_false]at hv;rcases hv with rfl|rfl|rfl|rfl<;>rfl
theorem ZP{W W':z0}{row:Option Nat}{base:Nat}{e:TypeId}{size:Nat}{v:z1}{k:Nat}{xs:List z1}(h:W.ownsRow base e size v k xs)(f:W.grownBy W' row)(i:∀r,row=E r->∃o:Obj,W.1[r]?=E o/\o.isCells=false):W'.ownsRow base e size v k xs:=by
 refine h.kept f ?_;rcases h.2 with⟨rfl,_⟩|⟨g,cap,c,rfl,_,a,_⟩
 ·exact .inl rfl
 ·refine .inr fun d=>?_;obtain⟨o,b,j⟩:=i g (by simpa[Value.ownBlock]using d.symm);rw[a]at b;cases b;cases j
def zqz(w:z0)(g:Nat)(a0 a1 a2 a3 a4 a5 a6 a7:z1):z0:=((((((((w.setCell (U g 0) a0).setCell (U g 1) a1).setCell (U g 2) a2).setCell (U g 3) a3).setCell (U g 4) a4).setCell (U g 5) a5).setCell (U g 6) a6).setCell (U g 7) a7)
theorem zoU{b0 j f e d c b a:z1}{t:TypeId}{fr:Nat×Nat}(h:w.1[g]?=E (.cells #[b0,j,f,e,d,c,b,a] t fr))(a0 a1 a2 a3 a4 a5 a6 a7:z1):(zqz w g a0 a1 a2 a3 a4 a5 a6 a7).1[g]?=E (.cells #[a0,a1,a2,a3,a4,a5,a6,a7] t fr):=by
 have k:(w.setCell (U g 0) a0).1[g]?=E (.cells #[a0,j,f,e,d,c,b,a] t fr):=xq (i:=0) h a0;have l:((w.setCell (U g 0) a0).setCell (U g 1) a1).1[g]?=E (.cells #[a0,a1,f,e,d,c,b,a] t fr):=xq (i:=1) k a1;have m:(((w.setCell (U g 0) a0).setCell (U g 1) a1).setCell (U g 2) a2).1[g]?=E (.cells #[a0,a1,a2,e,d,c,b,a] t fr):=xq (i:=2) l a2;have n:((((w.setCell (U g 0) a0).setCell (U g 1) a1).setCell (U g 2) a2).setCell (U g 3) a3).1[g]?=E (.cells #[a0,a1,a2,a3,d,c,b,a] t fr):=xq (i:=3) m a3;have o:(((((w.setCell (U g 0) a0).setCell (U g 1) a1).setCell (U g 2) a2).setCell (U g 3) a3).setCell (U g 4) a4).1[g]?=E (.cells #[a0,a1,a2,a3,a4,c,b,a] t fr):=xq (i:=4) n a4;have p:((((((w.setCell (U g 0) a0).setCell (U g 1) a1).setCell (U g 2) a2).setCell (U g 3) a3).setCell (U g 4) a4).setCell (U g 5) a5).1[g]?=E (.cells #[a0,a1,a2,a3,a4,a5,b,a] t fr):=xq (i:=5) o a5;have q:(((((((w.setCell (U g 0) a0).setCell (U g 1) a1).setCell (U g 2) a2).setCell (U g 3) a3).setCell (U g 4) a4).setCell (U g 5) a5).setCell (U g 6) a6).1[g]?=E (.cells #[a0,a1,a2,a3,a4,a5,a6,a] t fr):=xq (i:=6) p a6;have r:((((((((w.setCell (U g 0) a0).setCell (U g 1) a1).setCell (U g 2) a2).setCell (U g 3) a3).setCell (U g 4) a4).setCell (U g 5) a5).setCell (U g 6) a6).setCell (U g 7) a7).1[g]?=E (.cells #[a0,a1,a2,a3,a4,a5,a6,a7] t fr):=xq (i:=7) q a7;exact r
theorem zhh{B:Nat}(h:B<=g)(a0 a1 a2 a3 a4 a5 a6 a7:z1):Below B w (zqz w g a0 a1 a2 a3 a4 a5 a6 a7):=(((((((((Below.refl _ _).setCell (p:=(U g 0)) h _).setCell (p:=(U g 1)) h _).setCell (p:=(U g 2)) h _).setCell (p:=(U g 3)) h _).setCell (p:=(U g 4)) h _).setCell (p:=(U g 5)) h _).setCell (p:=(U g 6)) h _).setCell (p:=(U g 7)) h _)
theorem Y6{V:z0}{z a i:Nat}(hn:¬a=z)(a0 a1 a2 a3 a4 a5 a6 a7:z1):((((((((V.setCell (U z 0) a0).setCell (U z 1) a1).setCell (U z 2) a2).setCell (U z 3) a3).setCell (U z 4) a4).setCell (U z 5) a5).setCell (U z 6) a6).setCell (U z 7) a7).cell? (U a i)=V.cell? (U a i):=by
 simp only[World.cell?,Below.heap_setCell _ _ _ _ (show a≠((U z _):Addr).block from hn)]
theorem zgR{s:Nat}{c:Cf}{tv:z1}{lb gb:Nat}{Gl:List (Sg×Unit)}{L:LV}(h:xK w s c tv lb gb Gl L)(hc:c.ok)(k:Nat)(hk:k<c.n)(se we:Int)(H:xX se)(a1:0<=we/\we<=100000)(l:Cl)(D:xP (xM c L se we k)=l):
  Calls prog 111 #[(O s),.agg #[I k,I se,I we]] w (Rz w (.agg #[I k,I se,I we,I 3,I l.cnt,I l.sum,i_ l.mn,i_ l.mx])):=by
 obtain⟨N,P,m,yz⟩:=box2 w (.cells #[I k,I se,I we] 146) zob9;have r:=fun W hW=>ze (zgX (h.later (w':=W) hW) hc k hk se we H a1);have a2:(xM c L se we k).length<=1000:=by have:=Jy L (c.F k) se (we*qj c k) (qj c k).toNat;have:=XC hc hk;show(qV L (c.F k) se (we*qj c k) (qj c k).toNat).length<=1000;omega
 have y:=fun ad b cap B W M a0=>ze (zaa ad b cap (xM c L se we k) B a2 W M a0);obtain⟨X,t⟩:∃X,((w.alloc (.cells #[I k,I se,I we] 146)).alloc zob9)=X:=⟨_,rfl⟩;rw[t]at N P m yz;obtain⟨p0,p1,p2,-⟩:=zc N;have PB:=ze P;unfold clV at y;rw[D]at y;generalize xM c L se we k=zs at*;have z:=r X m;have A:=r X.drew m.drew;have u:=ze m;have Y:=ze t;have Q:=zd N;have qg:=zd P;have a3:¬w.1.size=w.1.size+1:=by omega
 clear h m N P r t D yz;go_in;go_wp2_with fail;rw[ud Y];go_region_held3 (fun w'=>w'.cell? (U w.1.size 0)=E (I k)/\w'.cell? (U w.1.size 1)=E (I se)/\w'.cell? (U w.1.size 2)=E (I we)) (first|go_keep|(with_reducible exact⟨(Y6 (by assumption) _ _ _ _ _ _ _ _).trans (by assumption),(Y6 (by assumption) _ _ _ _ _ _ _ _).trans (by assumption),(Y6 (by assumption) _ _ _ _ _ _ _ _).trans (by assumption)⟩)) (first
  |(go_at_call 171;(first|(with_reducible refine(ud z).mono ?_)|(with_reducible refine(ud A).mono ?_));rintro e V ⟨ad,g,cap,rfl,B,hg,o,d⟩;have i:Below X.1.size X V:=⟨d.os,d.tape,d.output,d.size,d.block⟩;clear d;have v0:Cz V w.1.size 0 (I k):=(i.cell (p:=(U w.1.size 0)) Q).trans p0;have v1:Cz V w.1.size 1 (I se):=(i.cell (p:=(U w.1.size 1)) Q).trans p1;have v2:Cz V w.1.size 2 (I we):=(i.cell (p:=(U w.1.size 2)) Q).trans p2;have vb:=(i.block _ qg).trans PB;have q:=z6 Q i.size;have K:=z6 qg i.size;have R:=y ad g cap B V hg o;have S:=y ad g cap B V.drew hg o;have x:=ze i;have VB:=ze vb;clear i B hg o y vb)
  |(go_at_call 123;(first|(with_reducible refine(ud R).mono ?_)|(with_reducible refine(ud S).mono ?_));rintro e J ⟨rfl,a⟩;have f:Below V.1.size V J:=⟨a.os,a.tape,a.output,a.size,a.block⟩;clear a;have j0:Cz J w.1.size 0 (I k):=(f.cell (p:=(U w.1.size 0)) q).trans v0;have j1:Cz J w.1.size 1 (I se):=(f.cell (p:=(U w.1.size 1)) q).trans v1;have j2:Cz J w.1.size 2 (I we):=(f.cell (p:=(U w.1.size 2)) q).trans v2;have jb:=(f.block _ K).trans VB;obtain⟨a4,a5,a6,a7,a8,a9,aa,ab,-⟩:=zc jb;have jf:=fun j=>zI jb j;have ae:=z6 q f.size;have ac:=z6 K f.size;have JB:=ze jb;have Z:=ze (u.trans ((x.trans (f.mono x.size)).mono u.size));clear jb f))
 all_goals go_wp2_with fail
 all_goals have hf:=zoU JB (I k) (I se) (I we) (I 3) (I l.cnt) (I l.sum) (i_ l.mn) (i_ l.mx)
 all_goals have M:=Z.trans (zhh (w:=J) (g:=w.1.size+1) (Nat.le_succ _) (I k) (I se) (I we) (I 3) (I l.cnt) (I l.sum) (i_ l.mn) (i_ l.mx))
 all_goals unfold zqz at hf M
 all_goals refine bodyPost_ret (v:=.agg #[I k,I se,I we,I 3,I l.cnt,I l.sum,i_ l.mn,i_ l.mx]) (results_cell_row results111 _ _ (w.1.size+1) _ _ _ _ rfl hf underlying148 rfl (by kernel_rfl)) rfl ?_
 all_goals exact⟨rfl,M⟩
theorem znz(s x v c ke z:Int)(a:Option Addr)(n cap:Nat)(F W K:Nat->Int)(hn:n<=4)(B:∀i,i<n-> -1<=F i/\F i<n)(Z:1<=c/\c<=1000)(O:∀i,i<n->1<=W i/\W i<=1000)(w:z0)(h:TS w a n F W K):
  Calls prog 196 #[.agg #[I s,I x,I v,I c,I ke,I z,.slice a n cap]] w (Rz w (.bool (vK n (zdg n c F W)))):=by
 go_in;go_wp2;go_loopw [2,3,4,8] (fun _ _ _ y wr=>∃(k:Nat),k<=n/\y=I k/\vK k (zdg n c F W)=true/\Below (w.1.size+1) (w.alloc (.cells #[I s,I x,I v,I c,I ke,I z,.slice a n cap] 27)) wr) (fun _ _ _ y _=>n-(intOf y).toNat);case atStart=>exact⟨0,za _,rfl,XT _,Below.refl _ _⟩
 case round=>
  obtain⟨k,hk,rfl,P,D⟩:=hrel;have M:Hid (vK k (zdg n c F W)=true):=P;clear P;have q:Below w.1.size w wr:=((Below.refl _ _).alloc (G _) _).trans (D.mono (by omega));have Y:w.1.size<wr.1.size:=by have:=D.size;simp at this;omega
  by_cases d:k<n
  ·have H:=h.below q;have J:=(CF.made w 27 (0,0) s x v c ke z a n cap).below D (by omega);obtain⟨_,c0,c1,c2,c3,c4,c5,c6⟩:=J;have f:=H;obtain⟨b,off,rfl,U,Q⟩:=H (by omega);obtain⟨h1,h2,h3⟩:=Q k d;have V:(k:Int)<n:=(by omega);have t:=B k d;clear Q h H;have L:1<=xp c W (F k)/\xp c W (F k)<=1000:=by
    unfold xp;by_cases e:F k= -1
    ·rw[if_pos e];omega
    ·rw[if_neg e];exact O _ (by omega)
   obtain⟨R,S⟩:=L;have a0:=O k d;by_cases r:W k%xp c W (F k)=0
   ·have X:(W k%xp c W (F k) !=0)=false:=(by simp[r]);cases N:down F n k
    ·have A:Hid (vK n (zdg n c F W)=false):=qi _ _ k d (by simp[zdg,N]);clear r;have p:Nonempty (zm (wr.1.size+1) (wr.alloc (Obj.cells #[Value.int IntKind.i64 (F k),Value.int IntKind.i64 (W k),Value.int IntKind.i64 (K k)] 80))):=zm.some _ _;have m:=fun(u:zm (wr.1.size+1) (wr.alloc (Obj.cells #[Value.int IntKind.i64 (F k),Value.int IntKind.i64 (W k),Value.int IntKind.i64 (K k)] 80))) b o h=>u.cell b o h;go_wp2;refine zh (wr.1.size+1) (by kernel_rfl) (by kernel_rfl) ?_;repeat(go_big_quiet_step (first
      |(go_at_call 237;exact Calls.later (by simp) (kX s x v c ke z _ n cap F W K _ t.1 t.2 hn _ (f.below (((Below.refl _ _).alloc (G _) _).trans (Below.mono (Subtype.property _) (by omega))))))
      |(go_at_call 240;exact Calls.later_same (jw _ n cap F W K k d hn B _ (f.below (((Below.refl _ _).alloc (G _) _).trans (Below.mono (Subtype.property _) (by omega))))))))
     refine wpQuiet_nil ?_;rintro⟨w1,g⟩;have j:Below (wr.1.size) wr w1:=((Below.refl _ _).alloc (G _) _).trans (g.mono (by omega));have l:Below (w.1.size+1) wr w1:=j.mono (by omega);clear m p;dsimp only;go_wp2;go_ret;exact⟨zQ A.out.symm,q.trans (l.mono (by omega))⟩
    ·have A:Hid (vK (k+1) (zdg n c F W)=true):=by
      show _=_;rw[XS,M.out];simp[zdg,r,N]
     clear r;have p:Nonempty (zm (wr.1.size+1) (wr.alloc (Obj.cells #[Value.int IntKind.i64 (F k),Value.int IntKind.i64 (W k),Value.int IntKind.i64 (K k)] 80))):=zm.some _ _;have m:=fun(u:zm (wr.1.size+1) (wr.alloc (Obj.cells #[Value.int IntKind.i64 (F k),Value.int IntKind.i64 (W k),Value.int IntKind.i64 (K k)] 80))) b o h=>u.cell b o h;go_wp2;refine zh (wr.1.size+1) (by kernel_rfl) (by kernel_rfl) ?_;repeat(go_big_quiet_step (first
      |(go_at_call 237;exact Calls.later (by simp) (kX s x v c ke z _ n cap F W K _ t.1 t.2 hn _ (f.below (((Below.refl _ _).alloc (G _) _).trans (Below.mono (Subtype.property _) (by omega))))))
      |(go_at_call 240;exact Calls.later_same (jw _ n cap F W K k d hn B _ (f.below (((Below.refl _ _).alloc (G _) _).trans (Below.mono (Subtype.property _) (by omega))))))))
     refine wpQuiet_nil ?_;rintro⟨w1,g⟩;have j:Below (wr.1.size) wr w1:=((Below.refl _ _).alloc (G _) _).trans (g.mono (by omega));have l:Below (w.1.size+1) wr w1:=j.mono (by omega);clear m p;dsimp only;go_wp2;go_roundw;case rel=>exact⟨k+1,by omega,by go_num,A.out,D.trans l⟩
     case measure=>simp[intOf];omega
   ·have X:(W k%xp c W (F k) !=0)=true:=(by simp[r]);have A:Hid (vK n (zdg n c F W)=false):=qi _ _ k d (by simp[zdg,r]);clear r;have p:Nonempty (zm (wr.1.size+1) (wr.alloc (Obj.cells #[Value.int IntKind.i64 (F k),Value.int IntKind.i64 (W k),Value.int IntKind.i64 (K k)] 80))):=zm.some _ _;have m:=fun(u:zm (wr.1.size+1) (wr.alloc (Obj.cells #[Value.int IntKind.i64 (F k),Value.int IntKind.i64 (W k),Value.int IntKind.i64 (K k)] 80))) b o h=>u.cell b o h;go_wp2;refine zh (wr.1.size+1) (by kernel_rfl) (by kernel_rfl) ?_;repeat(go_big_quiet_step (first
     |(go_at_call 237;exact Calls.later (by simp) (kX s x v c ke z _ n cap F W K _ t.1 t.2 hn _ (f.below (((Below.refl _ _).alloc (G _) _).trans (Below.mono (Subtype.property _) (by omega))))))
     |(go_at_call 240;exact Calls.later_same (jw _ n cap F W K k d hn B _ (f.below (((Below.refl _ _).alloc (G _) _).trans (Below.mono (Subtype.property _) (by omega))))))))
    refine wpQuiet_nil ?_;rintro⟨w1,g⟩;have j:Below (wr.1.size) wr w1:=((Below.refl _ _).alloc (G _) _).trans (g.mono (by omega));have l:Below (w.1.size+1) wr w1:=j.mono (by omega);clear m p;dsimp only;go_wp2;go_ret;exact⟨zQ A.out.symm,q.trans (l.mono (by omega))⟩
  ·have e:k=n:=(by omega);subst e;go_wp2;go_ret;exact⟨zQ M.out.symm,q⟩
def yR(P:Nm->Prop)[DecidablePred P]:List Nm->Int
 |[]=>0
 |x::r=>(if P x then 1 else 0)+yR P r
def zaX(P:Nm->Prop)[DecidablePred P]:List Nm->Int
 |[]=>0
 |x::r=>(if P x then x.val else 0)+zaX P r
structure IsC(P:Nm->Prop)[DecidablePred P](ns:List Nm)(a:Cl):Prop where
 cnt:a.cnt=yR P ns
 sum:a.sum=wrap64 (zaX P ns)
 none:yR P ns=0->a.mn=0/\a.mx=0
 mn:yR P ns≠0->(∃x∈ns,P x/\x.val=a.mn)/\∀x∈ns,P x->a.mn<=x.val
 mx:yR P ns≠0->(∃x∈ns,P x/\x.val=a.mx)/\∀x∈ns,P x->x.val<=a.mx
section
variable {P Q:Nm->Prop} [DecidablePred P] [DecidablePred Q] {ns:List Nm}
theorem kz:∀ns:List Nm,0<=yR P ns/\yR P ns<=ns.length
 |[]=>by simp[yR]
 |x::r=>by
  have:=kz r;simp only[yR,List.length_cons];split<;>omega
theorem qS:∀{ns:List Nm},yR P ns=0↔∀x∈ns,¬P x
 |[]=>by simp[yR]
 |x::r=>by
  have e:=kz (P:=P) r;have b:=qS (ns:=r);simp only[yR,List.mem_cons,forall_eq_or_imp];constructor
  ·intro h;by_cases a:P x
   ·rw[if_pos a]at h;omega
   ·rw[if_neg a]at h;exact⟨a,b.1 (by omega)⟩
  ·rintro⟨c,d⟩;rw[if_neg c,b.2 d];rfl
theorem zcn:∀{ns:List Nm},(∀x∈ns,¬P x)->zaX P ns=0
 |[],_=>by simp[zaX]
 |x::r,h=>by
  have a:=zcn (ns:=r) (fun y b=>h y (by simp[b]));simp only[zaX];rw[if_neg (h x (by simp)),a];rfl
theorem ZJ:∀{ns:List Nm},(∀x∈ns,P x↔Q x)->yR P ns=yR Q ns/\zaX P ns=zaX Q ns
 |[],_=>by simp[yR,zaX]
 |x::r,h=>by
  have a:=ZJ (ns:=r) (fun y c=>h y (by simp[c]));have b:=h x (by simp);simp only[yR,zaX,b,a.1,a.2,and_self]
theorem zhM{R:Nm->Prop}[DecidablePred R]:∀{ns:List Nm},(∀x∈ns,R x↔P x\/Q x)->(∀x∈ns,¬(P x/\Q x))->yR R ns=yR P ns+yR Q ns/\zaX R ns=zaX P ns+zaX Q ns
 |[],_,_=>by simp[yR,zaX]
 |x::r,h,hn=>by
  have c:=zhM (ns:=r) (fun y b=>h y (by simp[b])) (fun y b=>hn y (by simp[b]));have a:=h x (by simp);have d:=hn x (by simp);simp only[yR,zaX,c.1,c.2];by_cases p:P x
  ·have q:¬Q x:=fun q=>d ⟨p,q⟩;simp only[a,p,q,true_or,if_true,if_false];constructor<;>omega
  ·by_cases q:Q x
   ·simp only[a,p,q,or_true,if_true,if_false];constructor<;>omega
   ·simp only[a,p,q,or_self,if_false];constructor<;>omega
theorem IsC.congr(h:IsC P ns a)(c:∀x∈ns,P x↔Q x):IsC Q ns a:=by
 obtain⟨f,k⟩:=ZJ c;refine⟨by rw[h.cnt,f],by rw[h.sum,k],fun b=>h.none (by rw[f];exact b),fun b=>?_,fun b=>?_⟩
 ·obtain⟨⟨x,d,i,ex⟩,g⟩:=h.mn (by rw[f];exact b);exact⟨⟨x,d,(c x d).1 i,ex⟩,fun y e j=>g y e ((c y e).2 j)⟩
 ·obtain⟨⟨x,d,i,ex⟩,g⟩:=h.mx (by rw[f];exact b);exact⟨⟨x,d,(c x d).1 i,ex⟩,fun y e j=>g y e ((c y e).2 j)⟩
theorem IsC.one{b:Cl}(h:IsC P ns a)(k:IsC P ns b):a=b:=by
 obtain⟨a1,a2,a3,a4⟩:=a;obtain⟨J,K,n,o⟩:=b;have f:=h.cnt.trans k.cnt.symm;have g:=h.sum.trans k.sum.symm;simp only at f g;subst f g;by_cases c:yR P ns=0
 ·obtain⟨j,d⟩:=h.none c;obtain⟨l,e⟩:=k.none c;simp only at j d l e;subst j d l e;rfl
 ·obtain⟨⟨x,w,F,ex⟩,d⟩:=h.mn c;obtain⟨⟨y,A,H,s⟩,e⟩:=k.mn c;obtain⟨⟨z,B,I,t⟩,m⟩:=h.mx c;obtain⟨⟨u,v,D,r⟩,i⟩:=k.mx c;simp only at ex s t r d e m i;have:=d y A H;have:=e x w F;have:=m u v D;have:=i z B I;have p:a3=n:=by omega
  have q:a4=o:=by omega
  subst p q;rfl
theorem IsC.zero(h:∀x∈ns,¬P x):IsC P ns qL:=by
 have b:=qS.2 h;have c:=zcn h;exact⟨by rw[b];rfl,by rw[c];show(0:Int)=wrap64 0;unfold wrap64;omega,fun _=>⟨rfl,rfl⟩,fun a=>absurd b a,fun a=>absurd b a⟩
theorem Q5(x:Nm):∀ns:List Nm,yR P (ns++[x])=yR P ns+(if P x then 1 else 0)/\zaX P (ns++[x])=zaX P ns+(if P x then x.val else 0)
 |[]=>by simp[yR,zaX]
 |y::r=>by
  have h:=Q5 x r;simp only[List.cons_append,yR,zaX,h.1,h.2];constructor<;>omega
theorem IsC.skip(h:IsC P ns a)(g:¬P x):IsC P (ns++[x]) a:=by
 obtain⟨c,l⟩:=Q5 (P:=P) x ns;rw[if_neg g,Int.add_zero]at c l;refine⟨by rw[h.cnt,c],by rw[h.sum,l],fun d=>h.none (by rw[<-c];exact d),fun d=>?_,fun d=>?_⟩
 ·obtain⟨⟨y,i,j,f⟩,k⟩:=h.mn (by rw[<-c];exact d);refine⟨⟨y,by simp[i],j,f⟩,fun z b e=>?_⟩;rcases List.mem_append.1 b with b|b
  ·exact k z b e
  ·rw[List.mem_singleton]at b;subst b;exact absurd e g
 ·obtain⟨⟨y,i,j,f⟩,k⟩:=h.mx (by rw[<-c];exact d);refine⟨⟨y,by simp[i],j,f⟩,fun z b e=>?_⟩;rcases List.mem_append.1 b with b|b
  ·exact k z b e
  ·rw[List.mem_singleton]at b;subst b;exact absurd e g
def znh(a:Cl)(v:Int):Cl:=⟨a.cnt+1,wrap64 (a.sum+v),if a.cnt=0\/v<a.mn then v else a.mn,if a.cnt=0\/a.mx<v then v else a.mx⟩
theorem IsC.add(h:IsC P ns a)(e:P x):IsC P (ns++[x]) (znh a x.val):=by
 obtain⟨p,n⟩:=Q5 (P:=P) x ns;rw[if_pos e]at p n;have hn:=kz (P:=P) ns;have q:=h.cnt;refine⟨by show a.cnt+1=_;omega,by show wrap64 (a.sum+x.val)=_;rw[h.sum,zkF,n],fun o=>by omega,fun o=>?_,fun o=>?_⟩
 ·by_cases f:yR P ns=0
  ·have d:=qS.1 f;refine⟨⟨x,by simp,e,?_⟩,fun z b c=>?_⟩
   ·show x.val=if a.cnt=0\/x.val<a.mn then x.val else a.mn
    rw[if_pos (.inl (by omega))]
   ·show(if a.cnt=0\/x.val<a.mn then x.val else a.mn)<=z.val
    rw[if_pos (.inl (by omega))];rcases List.mem_append.1 b with b|b
    ·exact absurd c (d z b)
    ·rw[List.mem_singleton]at b;subst b;omega
  ·obtain⟨⟨y,k,m,i⟩,g⟩:=h.mn f;have l:¬a.cnt=0:=(by omega);show(∃z∈ns++[x],P z/\z.val=(if a.cnt=0\/x.val<a.mn then x.val else a.mn))/\∀z∈ns++[x],P z->(if a.cnt=0\/x.val<a.mn then x.val else a.mn)<=z.val
   by_cases j:x.val<a.mn
   ·rw[if_pos (.inr j)];refine⟨⟨x,by simp,e,rfl⟩,fun z b c=>?_⟩;rcases List.mem_append.1 b with b|b
    ·have:=g z b c;omega
    ·rw[List.mem_singleton]at b;subst b;omega
   ·rw[if_neg (by omega)];refine⟨⟨y,by simp[k],m,i⟩,fun z b c=>?_⟩;rcases List.mem_append.1 b with b|b
    ·exact g z b c
    ·rw[List.mem_singleton]at b;subst b;omega
 ·by_cases f:yR P ns=0
  ·have d:=qS.1 f;refine⟨⟨x,by simp,e,?_⟩,fun z b c=>?_⟩
   ·show x.val=if a.cnt=0\/a.mx<x.val then x.val else a.mx
    rw[if_pos (.inl (by omega))]
   ·show z.val<=(if a.cnt=0\/a.mx<x.val then x.val else a.mx)
    rw[if_pos (.inl (by omega))];rcases List.mem_append.1 b with b|b
    ·exact absurd c (d z b)
    ·rw[List.mem_singleton]at b;subst b;omega
  ·obtain⟨⟨y,k,m,i⟩,g⟩:=h.mx f;have l:¬a.cnt=0:=(by omega);show(∃z∈ns++[x],P z/\z.val=(if a.cnt=0\/a.mx<x.val then x.val else a.mx))/\∀z∈ns++[x],P z->z.val<=(if a.cnt=0\/a.mx<x.val then x.val else a.mx)
   by_cases j:a.mx<x.val
   ·rw[if_pos (.inr j)];refine⟨⟨x,by simp,e,rfl⟩,fun z b c=>?_⟩;rcases List.mem_append.1 b with b|b
    ·have:=g z b c;omega
    ·rw[List.mem_singleton]at b;subst b;omega
   ·rw[if_neg (by omega)];refine⟨⟨y,by simp[k],m,i⟩,fun z b c=>?_⟩;rcases List.mem_append.1 b with b|b
    ·exact g z b c
    ·rw[List.mem_singleton]at b;subst b;omega
end
theorem IsC.join{P Q R:Nm->Prop}[DecidablePred P][DecidablePred Q][DecidablePred R]{ns:List Nm}{zs:List Cl}{z:Cl}(h:IsC P ns (xP zs))(A:zs=[]↔yR P ns=0)(k:IsC Q ns z)(M:yR Q ns≠0)(f:∀x∈ns,R x↔P x\/Q x)(hn:∀x∈ns,¬(P x/\Q x))(hl:(ns.length:Int)<9223372036854775808):
  IsC R ns (xP (zs++[z]))/\yR R ns≠0:=by
 obtain⟨S,U⟩:=zhM f hn;have b1:=kz (P:=P) ns;have b2:=kz (P:=Q) ns;have b3:=kz (P:=R) ns;have L:yR R ns≠0:=by omega
 have N:=h.cnt;have O:=h.sum;have W:(xP (zs++[z])).cnt=wrap64 ((xP zs).cnt+z.cnt):=by simp only[xP,List.map_append,List.map_cons,List.map_nil,Qy]
 have X:(xP (zs++[z])).sum=wrap64 ((xP zs).sum+z.sum):=by simp only[xP,List.map_append,List.map_cons,List.map_nil,Qy]
 have Y:=k.cnt;have Z:=k.sum;obtain⟨⟨B,o,w,t⟩,I⟩:=k.mn M;obtain⟨⟨D,p,y,u⟩,K⟩:=k.mx M;have F:(∃x∈ns,R x/\x.val=(xP (zs++[z])).mn)/\∀x∈ns,R x->(xP (zs++[z])).mn<=x.val:=by
  simp only[xP,vB];cases b:yi KO zs with
  |none=>
   have d:zs=[]:=by
    rcases List.eq_nil_or_concat zs with h|⟨l,x,rfl⟩
    ·exact h
    ·rw[List.concat_eq_append,vB]at b;unfold jz at b;split at b<;>(try split at b)<;>cases b
   have c:=qS.1 (A.1 d);simp only[jz,Option.getD_some];exact⟨⟨B,o,(f B o).2 (.inr w),t⟩,fun x a n=>((f x a).1 n).elim (fun s=>absurd s (c x a)) (I x a)⟩
  |some g=>
   have d:zs≠[]:=fun e=> (by rw[e]at b;cases b);have c:yR P ns≠0:=fun e=>d (A.2 e);obtain⟨⟨v,m,r,i⟩,q⟩:=h.mn c;simp only[xP,b,Option.getD_some]at i q;simp only[jz,KO,zfy];by_cases j:z.mn<g.mn
   ·simp only[j,if_true,show(-1:Int)<0 by omega,Option.getD_some];refine⟨⟨B,o,(f B o).2 (.inr w),t⟩,fun x a n=>((f x a).1 n).elim (fun s=>?_) (I x a)⟩;have:=q x a s;omega
   ·have:¬(if z.mn<g.mn then(-1:Int)else if g.mn<z.mn then 1 else 0)<0:=by rw[if_neg j];split<;>omega
    simp only[this,if_false,Option.getD_some];refine⟨⟨v,m,(f v m).2 (.inl r),i⟩,fun x a n=>((f x a).1 n).elim (q x a) (fun J=>?_)⟩;have:=I x a J;omega
 have H:(∃x∈ns,R x/\x.val=(xP (zs++[z])).mx)/\∀x∈ns,R x->x.val<=(xP (zs++[z])).mx:=by
  simp only[xP,vB];cases b:yi KP zs with
  |none=>
   have d:zs=[]:=by
    rcases List.eq_nil_or_concat zs with h|⟨l,x,rfl⟩
    ·exact h
    ·rw[List.concat_eq_append,vB]at b;unfold jz at b;split at b<;>(try split at b)<;>cases b
   have c:=qS.1 (A.1 d);simp only[jz,Option.getD_some];exact⟨⟨D,p,(f D p).2 (.inr y),u⟩,fun x a n=>((f x a).1 n).elim (fun s=>absurd s (c x a)) (K x a)⟩
  |some g=>
   have d:zs≠[]:=fun e=> (by rw[e]at b;cases b);have c:yR P ns≠0:=fun e=>d (A.2 e);obtain⟨⟨v,m,r,i⟩,q⟩:=h.mx c;simp only[xP,b,Option.getD_some]at i q;simp only[jz,KP,zfy];by_cases j:g.mx<z.mx
   ·simp only[j,if_true,show(-1:Int)<0 by omega,Option.getD_some];refine⟨⟨D,p,(f D p).2 (.inr y),u⟩,fun x a n=>((f x a).1 n).elim (fun s=>?_) (K x a)⟩;have:=q x a s;omega
   ·have:¬(if g.mx<z.mx then(-1:Int)else if z.mx<g.mx then 1 else 0)<0:=by rw[if_neg j];split<;>omega
    simp only[this,if_false,Option.getD_some];refine⟨⟨v,m,(f v m).2 (.inl r),i⟩,fun x a n=>((f x a).1 n).elim (q x a) (fun J=>?_)⟩;have:=K x a J;omega
 refine⟨⟨?_,?_,fun V=>absurd V L,fun _=>F,fun _=>H⟩,L⟩
 ·rw[W,N,Y,<-S];unfold wrap64;omega
 ·rw[X,O,Z,U];unfold wrap64;omega
theorem zcl{L:LV}{wd f se a:Int}{ns:List Nm}(p:(ns.length:Int)<9223372036854775808):∀j:Nat,
  (∀i:Nat,i<j->(∀v,vf L ⟨f,se,a+i⟩=E v->IsC (fun x:Nm=>x.se=se/\x.tm/wd=a+i) ns v.cl/\yR (fun x:Nm=>x.se=se/\x.tm/wd=a+i) ns≠0)/\(vf L ⟨f,se,a+i⟩=z7->∀x∈ns,¬(x.se=se/\x.tm/wd=a+i)))->
  IsC (fun x:Nm=>x.se=se/\a<=x.tm/wd/\x.tm/wd<a+j) ns (xP (qV L f se a j))/\(qV L f se a j=[]↔yR (fun x:Nm=>x.se=se/\a<=x.tm/wd/\x.tm/wd<a+j) ns=0)
 |0,_=>by
  have m:∀x∈ns,¬(x.se=se/\a<=x.tm/wd/\x.tm/wd<a+(0:Nat)):=fun x _ ⟨_,b,c⟩=>by
   have:((0:Nat):Int)=0:=rfl;omega
  exact⟨IsC.zero m,by simp only[qV,List.range_zero,List.filterMap_nil,true_iff];exact qS.2 m⟩
 |j+1,h=>by
  obtain⟨q,r⟩:=zcl p j (fun i B=>h i (by omega));obtain⟨s,t⟩:=h j (by omega);have g:((j+1:Nat):Int)=(j:Int)+1:=by omega
  rw[Vg];cases o:vf L ⟨f,se,a+j⟩with
  |none=>
   have k:=t o
   have n:∀x∈ns,(x.se=se/\a<=x.tm/wd/\x.tm/wd<a+j)↔(x.se=se/\a<=x.tm/wd/\x.tm/wd<a+(j+1:Nat)):=fun x l=>by
    have:=k x l;constructor
    ·rintro⟨b,c,d⟩;exact⟨b,c,by omega⟩
    ·rintro⟨b,c,d⟩;refine⟨b,c,?_⟩;have:x.tm/wd≠a+j:=fun e=>this ⟨b,e⟩;omega
   simp only[List.append_nil]
   exact⟨q.congr n,by rw[r,(ZJ n).1]⟩
  |some v=>
   obtain⟨z,A⟩:=s v o
   obtain⟨w,y⟩:=IsC.join (R:=fun x:Nm=>x.se=se/\a<=x.tm/wd/\x.tm/wd<a+(j+1:Nat)) q r z A (fun x l=>by
    constructor
    ·rintro⟨b,c,d⟩;by_cases u:x.tm/wd=a+j
     ·exact .inr ⟨b,u⟩
     ·exact .inl ⟨b,c,by omega⟩
    ·rintro(⟨b,c,d⟩|⟨b,c⟩)
     ·exact⟨b,c,by omega⟩
     ·exact⟨b,by omega,by omega⟩) (fun x l ⟨⟨_,_,b⟩,_,c⟩=>by omega) p
   exact⟨w,by simp only[List.append_eq_nil_iff,List.cons_ne_nil,and_false,false_iff];exact y⟩
