import Derived.Test.YtndhpgciopcncaaGreatDoorPWhr0
import Derived.Maps.OwnIn
import Derived.OwnWalkIn
open Option renaming some → E
open Nat renaming le_refl → Y
open Go renaming World → Z
open Go.RowKit.Below renaming refl → G
set_option linter.unusedVariables false
set_option maxRecDepth 100000
set_option maxHeartbeats 2000000
open Go.Proofs.Tryz
namespace Go.Proofs.YtndhpgciopcncaaGreatDoor
open Go.ChangeMaps (setBlock)
open Go.RowKit Go.Maps Go.Shelf
attribute [local go_sem] Oper.semAt_some
theorem zjw{α:Type}(b:α->Sg)(gf:Nat)(lb:Array Value)(eg:∀args w,(callFunc gf args).run prog w=.ok (.enter gf args) w){ex:Nat->Prop}{n N:Nat}{S:List α->Prop}(f:α->Int)(w:Z)(hn:n<=w.1.size)
  (R:∀(x:α) (W:Z),Below w.1.size w W->Calls prog 182 #[.agg #[I (b x).t,I (b x).sr,I (b x).wn]] W fun e W'=>e=.returned (I (f x))/\Below W.1.size W W')
  (m:vZ ex n prog gf lb (fun x:α=>#[.agg #[I (b x).t,I (b x).sr,I (b x).wn]]) S N w):
  Calls prog 181 #[.func (.func gf) #[] lb,.func (.func 182) #[] #[]] w fun e w'=>∃xs,S xs/\e=.returned (I (vy (xs.map f)))/\Below w.1.size w w':=by
 have C:=ze R
 have H:=ze m
 have a1:=ze eg
 obtain⟨b1,b2,P,bz⟩:=box2 w (.cells #[.func (.func 182) #[] #[]] 261) Vh
 clear R m eg
 refine(callsIn_wide (n:=7)).1 ?_
 refine callsIn_of_wp_marks func181 rfl trivial ?_ rfl
 simp only[ntmps181,sZz,Nat.reduceAdd,Nat.reduceSub]
 have B1:=ze b1
 have B2:=ze b2
 have q:=ze P
 have BZ:=ze bz
 clear b1 b2 P bz
 gi_wp2
 obtain⟨W0,L⟩:∃W0,((w.alloc (.cells #[.func (.func 182) #[] #[]] 261)).alloc Vh)=W0:=⟨_,rfl⟩
 rw[L]at B1 B2 q BZ ⊢
 clear L
 have hz:W0.1.size=w.1.size+2:=ud BZ
 refine qU (F:=Fence.wide) (n:=7) rfl (by omega) (gf:=gf) (lb:=lb) rfl trivial (ud a1) (ud H (w.1.size+4) (by omega)) (by omega) (fun h k=>h.trans k) (fun W o o' h hc hw=>KX.putObj o' (by omega) (by omega) h hw) (ud q) (fun _=>rfl)
  (fun d W=>W.1[w.1.size]?=E (.cells #[.func (.func 182) #[] #[]] 261 (0,0))/\W.1[w.1.size+1]?=E (.cells #[I (vy (d.map f))] 3 (0,0))/\Below w.1.size w W)
  (fun _ _ _=>False)
  (fun s A B a2 j Q y=>⟨zu j.1 Q (fun r e=>(y r e).2),zu j.2.1 Q (fun r e=>(y r e).2),j.2.2.grown Q (j.2.2.size) (fun k e=>by have:=(y k e).1;omega)⟩)
  (fun _ _ _ _ _ j _ _=>j)
  ⟨ud B1,ud B2,ud q⟩
  (fun x a' W=>∃v,w.1.size+2<=v/\W.1[v]?=E (.cells #[I (b x).t,I (b x).sr,I (b x).wn] 146 (0,0))/\a'={tmps:=#[.func (.func gf) #[] lb,.func (.func 182) #[] #[],undef,(O w.1.size),I 0,(O (w.1.size+1)),(O v),.func (.func gf) #[] lb,.agg #[I (b x).t,I (b x).sr,I (b x).wn],undef,undef,undef,undef,undef,undef],defers:=[]})
  (fun x a' s A B a2 j Q y=>by
   obtain⟨v,h1,h2,h3⟩:=j
   exact⟨v,h1,zu h2 Q (fun r e=>(y r e).2),h3⟩) ?assign ?body ?done ?stop
 case assign=>
  rintro l d x W K ⟨u,i2,i3⟩ J
  have V:=i3.size
  have a5:=zd i2
  have HK:=ze J
  clear J
  gi_wp2
  have M:=(G W.1.size W).alloc (Y _) (.cells #[I (b x).t,I (b x).sr,I (b x).wn] 146)
  refine ud HK _ _ (zk M) (KX.of_below M) ⟨(Below.heap_alloc _ _ _ (by omega)).trans u,(Below.heap_alloc _ _ _ (by omega)).trans i2,i3.alloc V _⟩ ⟨W.1.size,by omega,zp _ _,rfl⟩
 case body=>
  rintro l d x a' W hl ⟨r,y⟩ ⟨u,i2,i3⟩ ⟨v,a3,X,rfl⟩ a6
  have V:=i3.size
  have a4:=zd X
  have T:=zd i2
  obtain⟨c1,-⟩:=zc u
  obtain⟨c2,-⟩:=zc i2
  have f2:W.frozen? (U (w.1.size+1) 0)=false:=zv i2 0
  obtain⟨x0,x1,x2,-⟩:=zc X
  have HI:=ze i2
  have z:=ze u
  have g:=ze i3
  have HX:=ze X
  have a7:prog.follows .mixedOrders=true:=by kernel_rfl
  have HC:=ze (ud C x W i3)
  have a0:=ze (ud C x W.drew i3.drew)
  clear u i2 i3 X
  gi_wp2
  gi_region_with_o (refine⟨trivial,?_⟩;gi_at_call 182;(first|refine(CallsIn.inRound l (callsIn_wide.2 (ud HC))).mono ?_|refine(CallsIn.inRound l (callsIn_wide.2 (ud a0))).mono ?_);rintro e w' ⟨rfl,i⟩;have d2:Cz w' (w.1.size+1) 0 (I (vy (d.map f))):=(i.cell (p:=(U (w.1.size+1) 0)) T).trans c2;have e2:w'.frozen? (U (w.1.size+1) 0)=false:=zv ((i.block _ T).trans (ud HI)) 0;have a:=ze i;clear i)
  all_goals gi_wp2
  all_goals(try go_bits)
  all_goals(first|(rw[hz];exact yG (x:=x) rfl hn (ud z) (ud HI) (ud g) ⟨(ud a).os,(ud a).tape,(ud a).output,(ud a).size,(ud a).block⟩)|exact yG (x:=x) rfl hn (ud z) (ud HI) (ud g) ⟨(ud a).os,(ud a).tape,(ud a).output,(ud a).size,(ud a).block⟩)
 case done=>
  rintro D xs W hD hS ⟨u,i2,i3⟩ J
  obtain⟨c2,-⟩:=zc i2
  have g:=ze i3
  clear u i2 i3
  gi_wp2
  refine⟨by simp,.inl ⟨_,_,rfl,run_takeDeferred J,?_⟩⟩
  exact⟨_,results_tmp rfl _ _ _,xs,hS,rfl,xu (ud g) (Y _) (by omega) J _⟩
 case stop=>
  rintro D c d W _ _ h _
  exact h.elim
attribute [local go_sem] Oper.semAt_some
theorem zkW{ex:Nat->Prop}{n m:Nat}(l Bm b:Nat)(L:List (Sg×SX))(ab:¬ex b)(J Jx:List SX->Z->Prop)(W:Z)(ad:m<=W.1.size)(hJ:OwnFrom W.1.size J)(M:OwnFrom W.1.size Jx)
  (hY:∀g x V,J g V->g.length<L.length->YieldAt Fence.wide 5 prog l #[.agg (xZz x)] V fun e V'=>(e=.returned (.bool true)/\J (g++[x]) V'/\KX ex n m V V')\/(e=.returned (.bool false)/\Jx (g++[x]) V'/\KX ex n m V V'))
  (hm:W.cell? (U Bm 0)=E (.map (E b))) (a0:xe yx W b L) (h0:J [] W):
  CallsIn Fence.wide 6 prog 150 #[.func (.yield l) #[] #[],(O Bm)] W fun e W'=>(∃v,e=.returned v)/\
   ((∃xs,(∃ps:List (Sg×SX),ps.Perm L/\xs=ps.map (fun p:Sg×SX=>p.2))/\J xs W')\/(∃g,True/\Jx g W')):=by
 obtain⟨k,a,hb,S⟩:=a0
 have a8:=zd hb
 have f:=run_range_map (P:=prog) W 152 _ _ b k a underlying152 hb
 have HE:=ze S
 have q:=ze hJ
 have af:=S.count
 refine callsIn_of_wp func150 rfl trivial ?_ rfl
 simp only[ntmps150,sZz,Nat.reduceAdd,Nat.reduceSub]
 gi_wp2
 gi_loopw [4] (fun _ wr=>∃(c:Array Nat) (I:Nat) (ps:List MapEntry),wr.1[W.1.size]?=E (.mapIter (E b) a c I)/\a<=I/\wr.1[b]?=E (.map k a)/\zdt k c ps/\J ((ps.map (kj yx L)).map (fun p:Sg×SX=>p.2)) wr)
  (fun _ wr=>jR k W.1.size wr)
 case atStart=>
  exact⟨#[],a,[],zp _ _,Y _,(Below.heap_alloc _ _ _ a8).trans hb,⟨by simp,by simp,by simp⟩,zO (ud q) h0 ((G _ _).alloc (Y _) _)⟩
 case round=>
  obtain⟨c,I,ps,C,a9,u,hC,K⟩:=hrel
  have ae:=zd C
  have HC:=ze hC
  rcases run_next_at (P:=prog) wr 0 W.1.size b a I c k a C u (ud HE).born a9 with⟨hz,d⟩|⟨e,i,w1,j,d⟩
  ·have HZ:=ze hz
   clear f hz hC S hJ M
   gi_wp2
   go_end0
   exact⟨⟨_,rfl⟩,.inl ⟨_,⟨_,jA Xk (ud HE) ((ud HC).all (ud HE).once (ud HZ)),rfl⟩,K⟩⟩
  ·have D:=ze i
   obtain⟨w,_⟩:=xw.1 i
   have a1:w1.1[W.1.size]?=E (.mapIter (E b) a c I):=by rcases j with rfl|rfl<;>exact C
   have Q:w1.1[b]?=E (.map k a):=by rcases j with rfl|rfl<;>exact u
   have ac:b≠W.1.size:=by omega
   obtain⟨X,B⟩:∃X,setBlock w1 W.1.size (.mapIter (E b) a (c.push e.born) a)=X:=⟨_,rfl⟩
   have t:X.1[W.1.size]?=E (.mapIter (E b) a (c.push e.born) a):=by rw[<-B];exact xL (zd a1) _
   have s:X.1[b]?=E (.map k a):=by rw[<-B,xi ac];exact Q
   have T:wr.grownBy X (E W.1.size):=by
    rw[<-B];rcases j with rfl|rfl
    ·exact xt _ _ _
    ·have:=xt wr.drew W.1.size (.mapIter (E b) a (c.push e.born) a)
     exact⟨this.os,this.tape,this.output,this.size,this.block⟩
   rw[B]at d
   have o:=run_entry_at (P:=prog) X W.1.size b a c k a e t s w (ud HE).once
   obtain⟨aa,hk,hv⟩:=ZS Xk S w
   have h:e.val=kN ((kj yx L e).2):=hv
   unfold kN at h
   rw[h]at d o
   have a6:J ((ps.map (kj yx L)).map (fun p:Sg×SX=>p.2)) X:=ud q _ wr X (E W.1.size) K T (fun r e=>by cases e;exact⟨Y _,_,C,rfl⟩)
   obtain⟨y,A⟩:∃y,(kj yx L e).2=y:=⟨_,rfl⟩
   have a4:Hid ((fun p:Sg×SX=>p.2) (kj yx L e)=y):=A
   rw[A]at d o
   have R:=(G X.1.size X).alloc (Y _) (.cells (xZz y) 148)
   obtain⟨fn,tmps,assign,body,hy,hR⟩:=hY ((ps.map (kj yx L)).map (fun p:Sg×SX=>p.2)) y _ (zO (ud q) a6 R) (by rw[List.length_map,List.length_map];have:=hC.lt i;omega)
   have H:=ze t
   have F:=ze s
   have HX:=ze B
   have a3:=ze C
   clear f hC S t s B w a1 Q hv hk T h C u i j aa A R hJ M
   gi_wp2
   refine hR.mono ?_
   rintro e3 W3 (⟨rfl,a5,z⟩|⟨rfl,N,z⟩)
   ·gi_wp2
    have a2:=z.high W.1.size _ (by omega) (fun⟨_,_,e⟩=>by cases e) ((Below.heap_alloc _ _ _ (zd (ud H))).trans (ud H))
    have a7:=z.walk b _ ab ((Below.heap_alloc _ _ _ (zd (ud F))).trans (ud F)) rfl
    go_roundw
    case rel=>exact⟨_,_,ps++[e],a2,Y _,a7,(ud HC).step (ud D),by rw[List.map_append,List.map_append,List.map_singleton,List.map_singleton,ud a4];exact a5⟩
    case measure=>rw[xn a2,xn (ud a3)];exact qI (ud D)
   ·gi_wp2
    refine bodyPost_ret (results_none rfl _ _ _) rfl ?_
    exact⟨⟨_,rfl⟩,.inr ⟨_,trivial,N⟩⟩
theorem Jm(b:Nat)(w:Z):
  Calls prog 88 #[.map (E b)] w fun e w'=>e=.returned (.func (.func 150) #[] #[(O w.1.size)])/\w'=w.alloc (.cells #[.map (E b)] 152):=by
 go_enter func88,ntmps88
 go_wp2_with fail
 go_ret
 exact⟨rfl,rfl⟩
theorem zkX{ex:Nat->Prop}{n:Nat}(Bm b:Nat)(L:List (Sg×SX))(w:Z)(e:¬ex b)(c:Bm<w.1.size)(o:w.cell? (U Bm 0)=E (.map (E b)))(a:xe yx w b L):
  vZ ex n prog 150 #[(O Bm)] (fun x:SX=>#[.agg (xZz x)]) (fun xs=>∃ps:List (Sg×SX),ps.Perm L/\xs=ps.map (fun p:Sg×SX=>p.2)) L.length w:=
 fun m q l J h W g f j d k i=>zkW l Bm b L e J h W f j d k ((g.cell (p:=(U Bm 0)) c).trans o) (a.later g) i
theorem zcp:∀args w,(callFunc 150 args).run prog w=.ok (.enter 150 args) w:=enters_of func150 (by kernel_rfl) rfl
theorem zhU{ex:Nat->Prop}{n:Nat}(Bm b:Nat)(L:LV)(w:Z)(d:¬ex b)(c:Bm<w.1.size)(f:w.cell? (U Bm 0)=E (.map (E b)))(a:xe yx w b (vC L)):
  vZ ex n prog 150 #[(O Bm)] (fun x:SX=>#[.agg (xZz x)]) (fun xs=>xs.Perm L) L.length w:=by
 have h:=(zkX (n:=n) Bm b (vC L) w d c f a).imp (S':=fun xs=>xs.Perm L) (fun xs ⟨ps,h,e⟩=>by rw[e];exact Kl h)
 rwa[Kk]at h
attribute [local go_sem] Oper.semAt_some
theorem zkU{α:Type}(s:α->Sg)(q:Sg->α){ex:Nat->Prop}{n m:Nat}(l Bm b:Nat)(L:List (Sg×SX))(af:∀p∈L,s (q p.1)=p.1)(ae:¬ex b)(J Jx:List α->Z->Prop)(W:Z)(ah:m<=W.1.size)(hJ:OwnFrom W.1.size J)(S:OwnFrom W.1.size Jx)
  (hY:∀g x V,J g V->g.length<L.length->YieldAt Fence.wide 5 prog l #[.agg #[I (s x).t,I (s x).sr,I (s x).wn]] V fun e V'=>(e=.returned (.bool true)/\J (g++[x]) V'/\KX ex n m V V')\/(e=.returned (.bool false)/\Jx (g++[x]) V'/\KX ex n m V V'))
  (hm:W.cell? (U Bm 0)=E (.map (E b))) (a4:xe yx W b L) (h0:J [] W):
  CallsIn Fence.wide 6 prog 233 #[.func (.yield l) #[] #[],(O Bm)] W fun e W'=>(∃v,e=.returned v)/\
   ((∃xs,(∃ps:List (Sg×SX),ps.Perm L/\xs=ps.map (fun p:Sg×SX=>q p.1))/\J xs W')\/(∃g,True/\Jx g W')):=by
 obtain⟨k,a,hb,he⟩:=a4
 have ac:=zd hb
 have f:=run_range_map (P:=prog) W 152 _ _ b k a underlying152 hb
 have HE:=ze he
 have u:=ze hJ
 have aj:=he.count
 refine callsIn_of_wp func233 rfl trivial ?_ rfl
 simp only[ntmps233,sZz,Nat.reduceAdd,Nat.reduceSub]
 gi_wp2
 gi_loopw [3] (fun _ wr=>∃(c:Array Nat) (Q:Nat) (ps:List MapEntry),wr.1[W.1.size]?=E (.mapIter (E b) a c Q)/\a<=Q/\wr.1[b]?=E (.map k a)/\zdt k c ps/\J ((ps.map (kj yx L)).map (fun p:Sg×SX=>q p.1)) wr)
  (fun _ wr=>jR k W.1.size wr)
 case atStart=>
  exact⟨#[],a,[],zp _ _,Y _,(Below.heap_alloc _ _ _ ac).trans hb,⟨by simp,by simp,by simp⟩,zO (ud u) h0 ((G _ _).alloc (Y _) _)⟩
 case round=>
  obtain⟨c,Q,ps,H,ad,A,hC,R⟩:=hrel
  have ai:=zd H
  have HC:=ze hC
  rcases run_next_at (P:=prog) wr 0 W.1.size b a Q c k a H A (ud HE).born ad with⟨hz,d⟩|⟨e,i,w1,j,d⟩
  ·have HZ:=ze hz
   clear f hz hC he hJ S
   gi_wp2
   go_end0
   exact⟨⟨_,rfl⟩,.inl ⟨_,⟨_,jA Xk (ud HE) ((ud HC).all (ud HE).once (ud HZ)),rfl⟩,R⟩⟩
  ·have K:=ze i
   obtain⟨B,_⟩:=xw.1 i
   have a5:w1.1[W.1.size]?=E (.mapIter (E b) a c Q):=by rcases j with rfl|rfl<;>exact H
   have a0:w1.1[b]?=E (.map k a):=by rcases j with rfl|rfl<;>exact A
   have ag:b≠W.1.size:=by omega
   obtain⟨X,F⟩:∃X,setBlock w1 W.1.size (.mapIter (E b) a (c.push e.born) a)=X:=⟨_,rfl⟩
   have z:X.1[W.1.size]?=E (.mapIter (E b) a (c.push e.born) a):=by rw[<-F];exact xL (zd a5) _
   have w:X.1[b]?=E (.map k a):=by rw[<-F,xi ag];exact a0
   have a3:wr.grownBy X (E W.1.size):=by
    rw[<-F];rcases j with rfl|rfl
    ·exact xt _ _ _
    ·have:=xt wr.drew W.1.size (.mapIter (E b) a (c.push e.born) a)
     exact⟨this.os,this.tape,this.output,this.size,this.block⟩
   rw[F]at d
   have o:=run_entry_at (P:=prog) X W.1.size b a c k a e z w B (ud HE).once
   obtain⟨a2,hk,hv⟩:=ZS Xk he B
   have h:e.key=kC (s (q (kj yx L e).1)):=by rw[af _ a2];exact hk
   unfold kC at h
   rw[h]at d o
   have aa:J ((ps.map (kj yx L)).map (fun p:Sg×SX=>q p.1)) X:=ud u _ wr X (E W.1.size) R a3 (fun r e=>by cases e;exact⟨Y _,_,H,rfl⟩)
   obtain⟨y,D⟩:∃y,q (kj yx L e).1=y:=⟨_,rfl⟩
   have a8:Hid ((fun p:Sg×SX=>q p.1) (kj yx L e)=y):=D
   rw[D]at d o
   have a1:=(G X.1.size X).alloc (Y _) (.cells #[I (s y).t,I (s y).sr,I (s y).wn] 146)
   obtain⟨fn,tmps,assign,body,hy,hR⟩:=hY ((ps.map (kj yx L)).map (fun p:Sg×SX=>q p.1)) y _ (zO (ud u) aa a1) (by rw[List.length_map,List.length_map];have:=hC.lt i;omega)
   have N:=ze z
   have M:=ze w
   have HX:=ze F
   have a7:=ze H
   clear f hC he z w F B a5 a0 hv hk a3 h H A i j a2 D a1 hJ S
   gi_wp2
   refine hR.mono ?_
   rintro e3 W3 (⟨rfl,a9,C⟩|⟨rfl,T,C⟩)
   ·gi_wp2
    have a6:=C.high W.1.size _ (by omega) (fun⟨_,_,e⟩=>by cases e) ((Below.heap_alloc _ _ _ (zd (ud N))).trans (ud N))
    have ab:=C.walk b _ ae ((Below.heap_alloc _ _ _ (zd (ud M))).trans (ud M)) rfl
    go_roundw
    case rel=>exact⟨_,_,ps++[e],a6,Y _,ab,(ud HC).step (ud K),by rw[List.map_append,List.map_append,List.map_singleton,List.map_singleton,ud a8];exact a9⟩
    case measure=>rw[xn a6,xn (ud a7)];exact qI (ud K)
   ·gi_wp2
    refine bodyPost_ret (results_none rfl _ _ _) rfl ?_
    exact⟨⟨_,rfl⟩,.inr ⟨_,trivial,T⟩⟩
theorem Jl(b:Nat)(w:Z):
  Calls prog 173 #[.map (E b)] w fun e w'=>e=.returned (.func (.func 233) #[] #[(O w.1.size)])/\w'=w.alloc (.cells #[.map (E b)] 152):=by
 go_enter func173,ntmps173
 go_wp2_with fail
 go_ret
 exact⟨rfl,rfl⟩
theorem zkV{α:Type}(c:α->Sg)(i:Sg->α){ex:Nat->Prop}{n:Nat}(Bm b:Nat)(L:List (Sg×SX))(h:∀p∈L,c (i p.1)=p.1)(w:Z)(f:¬ex b)(d:Bm<w.1.size)(s:w.cell? (U Bm 0)=E (.map (E b)))(a:xe yx w b L):
  vZ ex n prog 233 #[(O Bm)] (fun x:α=>#[.agg #[I (c x).t,I (c x).sr,I (c x).wn]]) (fun xs=>∃ps:List (Sg×SX),ps.Perm L/\xs=ps.map (fun p:Sg×SX=>i p.1)) L.length w:=
 fun m u l J k W j g q e r o=>zkU c i l Bm b L h f J k W g q e r ((j.cell (p:=(U Bm 0)) d).trans s) (a.later j) o
theorem zco:∀args w,(callFunc 233 args).run prog w=.ok (.enter 233 args) w:=enters_of func233 (by kernel_rfl) rfl
theorem zcw{α:Type}(d:α->Sg)(a:Sg->α){ex:Nat->Prop}{n:Nat}(Bm b:Nat)(L:LV)(i:∀p∈L,d (a p.1)=p.1)(w:Z)(g:¬ex b)(f:Bm<w.1.size)(m:w.cell? (U Bm 0)=E (.map (E b)))(c:xe yx w b (vC L)):
  vZ ex n prog 233 #[(O Bm)] (fun x:α=>#[.agg #[I (d x).t,I (d x).sr,I (d x).wn]]) (fun xs=>∃ps:List (Sg×SV),ps.Perm L/\xs=ps.map (fun p:Sg×SV=>a p.1)) L.length w:=by
 have h:=(zkV d a (n:=n) Bm b (vC L) (fun q j=>by obtain⟨k,l⟩:=zba j;rw[l];exact i _ k) w g f m c).imp (S':=fun xs=>∃ps:List (Sg×SV),ps.Perm L/\xs=ps.map (fun p:Sg×SV=>a p.1)) (fun xs ⟨ps,h,e⟩=>⟨_,Kl h,by
  rw[e,List.map_map]
  refine List.map_congr_left (fun q j=>?_)
  show a q.1=a q.2.1
  rw[(zba (h.mem_iff.1 j)).2]⟩)
 rwa[Kk]at h
attribute [local go_sem] Oper.semAt_some
theorem znF{ex:Nat->Prop}{n m:Nat}(l Bm b:Nat)(L:List (Tok×Lse))(ab:¬ex b)(J Jx:List Lse->Z->Prop)(W:Z)(ad:m<=W.1.size)(hJ:OwnFrom W.1.size J)(M:OwnFrom W.1.size Jx)
  (hY:∀g x V,J g V->g.length<L.length->YieldAt Fence.wide 5 prog l #[.agg (lZz x)] V fun e V'=>(e=.returned (.bool true)/\J (g++[x]) V'/\KX ex n m V V')\/(e=.returned (.bool false)/\Jx (g++[x]) V'/\KX ex n m V V'))
  (hm:W.cell? (U Bm 0)=E (.map (E b))) (a0:xe xF W b L) (h0:J [] W):
  CallsIn Fence.wide 6 prog 156 #[.func (.yield l) #[] #[],(O Bm)] W fun e W'=>(∃v,e=.returned v)/\
   ((∃xs,(∃ps:List (Tok×Lse),ps.Perm L/\xs=ps.map (fun p:Tok×Lse=>p.2))/\J xs W')\/(∃g,True/\Jx g W')):=by
 obtain⟨k,a,hb,S⟩:=a0
 have a8:=zd hb
 have f:=run_range_map (P:=prog) W 168 _ _ b k a underlying168 hb
 have HE:=ze S
 have q:=ze hJ
 have af:=S.count
 refine callsIn_of_wp func156 rfl trivial ?_ rfl
 simp only[ntmps156,sZz,Nat.reduceAdd,Nat.reduceSub]
 gi_wp2
 gi_loopw [4] (fun _ wr=>∃(c:Array Nat) (I:Nat) (ps:List MapEntry),wr.1[W.1.size]?=E (.mapIter (E b) a c I)/\a<=I/\wr.1[b]?=E (.map k a)/\zdt k c ps/\J ((ps.map (kj xF L)).map (fun p:Tok×Lse=>p.2)) wr)
  (fun _ wr=>jR k W.1.size wr)
 case atStart=>
  exact⟨#[],a,[],zp _ _,Y _,(Below.heap_alloc _ _ _ a8).trans hb,⟨by simp,by simp,by simp⟩,zO (ud q) h0 ((G _ _).alloc (Y _) _)⟩
 case round=>
  obtain⟨c,I,ps,C,a9,u,hC,K⟩:=hrel
  have ae:=zd C
  have HC:=ze hC
  rcases run_next_at (P:=prog) wr 0 W.1.size b a I c k a C u (ud HE).born a9 with⟨hz,d⟩|⟨e,i,w1,j,d⟩
  ·have HZ:=ze hz
   clear f hz hC S hJ M
   gi_wp2
   go_end0
   exact⟨⟨_,rfl⟩,.inl ⟨_,⟨_,jA yi (ud HE) ((ud HC).all (ud HE).once (ud HZ)),rfl⟩,K⟩⟩
  ·have D:=ze i
   obtain⟨w,_⟩:=xw.1 i
   have a1:w1.1[W.1.size]?=E (.mapIter (E b) a c I):=by rcases j with rfl|rfl<;>exact C
   have Q:w1.1[b]?=E (.map k a):=by rcases j with rfl|rfl<;>exact u
   have ac:b≠W.1.size:=by omega
   obtain⟨X,B⟩:∃X,setBlock w1 W.1.size (.mapIter (E b) a (c.push e.born) a)=X:=⟨_,rfl⟩
   have t:X.1[W.1.size]?=E (.mapIter (E b) a (c.push e.born) a):=by rw[<-B];exact xL (zd a1) _
   have s:X.1[b]?=E (.map k a):=by rw[<-B,xi ac];exact Q
   have T:wr.grownBy X (E W.1.size):=by
    rw[<-B];rcases j with rfl|rfl
    ·exact xt _ _ _
    ·have:=xt wr.drew W.1.size (.mapIter (E b) a (c.push e.born) a)
     exact⟨this.os,this.tape,this.output,this.size,this.block⟩
   rw[B]at d
   have o:=run_entry_at (P:=prog) X W.1.size b a c k a e t s w (ud HE).once
   obtain⟨aa,hk,hv⟩:=ZS yi S w
   have h:e.val=vj ((kj xF L e).2):=hv
   unfold vj at h
   rw[h]at d o
   have a6:J ((ps.map (kj xF L)).map (fun p:Tok×Lse=>p.2)) X:=ud q _ wr X (E W.1.size) K T (fun r e=>by cases e;exact⟨Y _,_,C,rfl⟩)
   obtain⟨y,A⟩:∃y,(kj xF L e).2=y:=⟨_,rfl⟩
   have a4:Hid ((fun p:Tok×Lse=>p.2) (kj xF L e)=y):=A
   rw[A]at d o
   have R:=(G X.1.size X).alloc (Y _) (.cells (lZz y) 164)
   obtain⟨fn,tmps,assign,body,hy,hR⟩:=hY ((ps.map (kj xF L)).map (fun p:Tok×Lse=>p.2)) y _ (zO (ud q) a6 R) (by rw[List.length_map,List.length_map];have:=hC.lt i;omega)
   have H:=ze t
   have F:=ze s
   have HX:=ze B
   have a3:=ze C
   clear f hC S t s B w a1 Q hv hk T h C u i j aa A R hJ M
   gi_wp2
   refine hR.mono ?_
   rintro e3 W3 (⟨rfl,a5,z⟩|⟨rfl,N,z⟩)
   ·gi_wp2
    have a2:=z.high W.1.size _ (by omega) (fun⟨_,_,e⟩=>by cases e) ((Below.heap_alloc _ _ _ (zd (ud H))).trans (ud H))
    have a7:=z.walk b _ ab ((Below.heap_alloc _ _ _ (zd (ud F))).trans (ud F)) rfl
    go_roundw
    case rel=>exact⟨_,_,ps++[e],a2,Y _,a7,(ud HC).step (ud D),by rw[List.map_append,List.map_append,List.map_singleton,List.map_singleton,ud a4];exact a5⟩
    case measure=>rw[xn a2,xn (ud a3)];exact qI (ud D)
   ·gi_wp2
    refine bodyPost_ret (results_none rfl _ _ _) rfl ?_
    exact⟨⟨_,rfl⟩,.inr ⟨_,trivial,N⟩⟩
theorem zhV(b:Nat)(w:Z):
  Calls prog 94 #[.map (E b)] w fun e w'=>e=.returned (.func (.func 156) #[] #[(O w.1.size)])/\w'=w.alloc (.cells #[.map (E b)] 168):=by
 go_enter func94,ntmps94
 go_wp2_with fail
 go_ret
 exact⟨rfl,rfl⟩
theorem zmF{ex:Nat->Prop}{n:Nat}(Bm b:Nat)(L:List (Tok×Lse))(w:Z)(e:¬ex b)(c:Bm<w.1.size)(o:w.cell? (U Bm 0)=E (.map (E b)))(a:xe xF w b L):
  vZ ex n prog 156 #[(O Bm)] (fun x:Lse=>#[.agg (lZz x)]) (fun xs=>∃ps:List (Tok×Lse),ps.Perm L/\xs=ps.map (fun p:Tok×Lse=>p.2)) L.length w:=
 fun m q l J h W g f j d k i=>znF l Bm b L e J h W f j d k ((g.cell (p:=(U Bm 0)) c).trans o) (a.later g) i
theorem zmA:∀args w,(callFunc 156 args).run prog w=.ok (.enter 156 args) w:=enters_of func156 (by kernel_rfl) rfl
attribute [local go_sem] Oper.semAt_some
theorem znG{α:Type}(f:α->Tsk)(u:Tsk->α){ex:Nat->Prop}{n m:Nat}(l Bm b:Nat)(L:List (Jk×Tsk))(ag:∀p∈L,f (u p.2)=p.2)(af:¬ex b)(J Jx:List α->Z->Prop)(W:Z)(ai:m<=W.1.size)(hJ:OwnFrom W.1.size J)(T:OwnFrom W.1.size Jx)
  (hY:∀h x V,J h V->h.length<L.length->YieldAt Fence.wide 5 prog l #[.agg #[.iface (f x).jt (.agg #[I (f x).s.t,I (f x).s.sr,I (f x).s.wn]),I (f x).se,I (f x).ti,I (f x).rest]] V fun e V'=>(e=.returned (.bool true)/\J (h++[x]) V'/\KX ex n m V V')\/(e=.returned (.bool false)/\Jx (h++[x]) V'/\KX ex n m V V'))
  (hm:W.cell? (U Bm 0)=E (.map (E b))) (a5:xe xY W b L) (h0:J [] W):
  CallsIn Fence.wide 6 prog 158 #[.func (.yield l) #[] #[],(O Bm)] W fun e W'=>(∃v,e=.returned v)/\
   ((∃xs,(∃ps:List (Jk×Tsk),ps.Perm L/\xs=ps.map (fun p:Jk×Tsk=>u p.2))/\J xs W')\/(∃h,True/\Jx h W')):=by
 obtain⟨o,a,hb,he⟩:=a5
 have ad:=zd hb
 have g:=run_range_map (P:=prog) W 169 _ _ b o a underlying169 hb
 have HE:=ze he
 have w:=ze hJ
 have ak:=he.count
 refine callsIn_of_wp func158 rfl trivial ?_ rfl
 simp only[ntmps158,sZz,Nat.reduceAdd,Nat.reduceSub]
 gi_wp2
 gi_loopw [4] (fun _ wr=>∃(c:Array Nat) (R:Nat) (ps:List MapEntry),wr.1[W.1.size]?=E (.mapIter (E b) a c R)/\a<=R/\wr.1[b]?=E (.map o a)/\zdt o c ps/\J ((ps.map (kj xY L)).map (fun p:Jk×Tsk=>u p.2)) wr)
  (fun _ wr=>jR o W.1.size wr)
 case atStart=>
  exact⟨#[],a,[],zp _ _,Y _,(Below.heap_alloc _ _ _ ad).trans hb,⟨by simp,by simp,by simp⟩,zO (ud w) h0 ((G _ _).alloc (Y _) _)⟩
 case round=>
  obtain⟨c,R,ps,K,ae,B,hC,S⟩:=hrel
  have aj:=zd K
  have HC:=ze hC
  rcases run_next_at (P:=prog) wr 0 W.1.size b a R c o a K B (ud HE).born ae with⟨hz,d⟩|⟨e,j,w1,k,d⟩
  ·have HZ:=ze hz
   clear g hz hC he hJ T
   gi_wp2
   go_end0
   exact⟨⟨_,rfl⟩,.inl ⟨_,⟨_,jA yT (ud HE) ((ud HC).all (ud HE).once (ud HZ)),rfl⟩,S⟩⟩
  ·have M:=ze j
   obtain⟨C,_⟩:=xw.1 j
   have a6:w1.1[W.1.size]?=E (.mapIter (E b) a c R):=by rcases k with rfl|rfl<;>exact K
   have a1:w1.1[b]?=E (.map o a):=by rcases k with rfl|rfl<;>exact B
   have ah:b≠W.1.size:=by omega
   obtain⟨X,H⟩:∃X,setBlock w1 W.1.size (.mapIter (E b) a (c.push e.born) a)=X:=⟨_,rfl⟩
   have A:X.1[W.1.size]?=E (.mapIter (E b) a (c.push e.born) a):=by rw[<-H];exact xL (zd a6) _
   have z:X.1[b]?=E (.map o a):=by rw[<-H,xi ah];exact a1
   have a4:wr.grownBy X (E W.1.size):=by
    rw[<-H];rcases k with rfl|rfl
    ·exact xt _ _ _
    ·have:=xt wr.drew W.1.size (.mapIter (E b) a (c.push e.born) a)
     exact⟨this.os,this.tape,this.output,this.size,this.block⟩
   rw[H]at d
   have q:=run_entry_at (P:=prog) X W.1.size b a c o a e A z C (ud HE).once
   obtain⟨a3,hk,hv⟩:=ZS yT he C
   have i:e.val=Qb (f (u (kj xY L e).2)):=by rw[ag _ a3];exact hv
   unfold Qb at i
   rw[i]at d q
   have ab:J ((ps.map (kj xY L)).map (fun p:Jk×Tsk=>u p.2)) X:=ud w _ wr X (E W.1.size) S a4 (fun r e=>by cases e;exact⟨Y _,_,K,rfl⟩)
   obtain⟨y,F⟩:∃y,u (kj xY L e).2=y:=⟨_,rfl⟩
   have a9:Hid ((fun p:Jk×Tsk=>u p.2) (kj xY L e)=y):=F
   rw[F]at d q
   have a2:=(G X.1.size X).alloc (Y _) (.cells #[.iface (f y).jt (.agg #[I (f y).s.t,I (f y).s.sr,I (f y).s.wn]),I (f y).se,I (f y).ti,I (f y).rest] 177)
   obtain⟨fn,tmps,assign,body,hy,hR⟩:=hY ((ps.map (kj xY L)).map (fun p:Jk×Tsk=>u p.2)) y _ (zO (ud w) ab a2) (by rw[List.length_map,List.length_map];have:=hC.lt j;omega)
   have Q:=ze A
   have N:=ze z
   have HX:=ze H
   have a8:=ze K
   clear g hC he A z H C a6 a1 hv hk a4 i K B j k a3 F a2 hJ T
   gi_wp2
   refine hR.mono ?_
   rintro e3 W3 (⟨rfl,aa,D⟩|⟨rfl,a0,D⟩)
   ·gi_wp2
    have a7:=D.high W.1.size _ (by omega) (fun⟨_,_,e⟩=>by cases e) ((Below.heap_alloc _ _ _ (zd (ud Q))).trans (ud Q))
    have ac:=D.walk b _ af ((Below.heap_alloc _ _ _ (zd (ud N))).trans (ud N)) rfl
    go_roundw
    case rel=>exact⟨_,_,ps++[e],a7,Y _,ac,(ud HC).step (ud M),by rw[List.map_append,List.map_append,List.map_singleton,List.map_singleton,ud a9];exact aa⟩
    case measure=>rw[xn a7,xn (ud a8)];exact qI (ud M)
   ·gi_wp2
    refine bodyPost_ret (results_none rfl _ _ _) rfl ?_
    exact⟨⟨_,rfl⟩,.inr ⟨_,trivial,a0⟩⟩
theorem zhW(b:Nat)(w:Z):
  Calls prog 97 #[.map (E b)] w fun e w'=>e=.returned (.func (.func 158) #[] #[(O w.1.size)])/\w'=w.alloc (.cells #[.map (E b)] 169):=by
 go_enter func97,ntmps97
 go_wp2_with fail
 go_ret
 exact⟨rfl,rfl⟩
theorem zpj{α:Type}(a:α->Tsk)(i:Tsk->α){ex:Nat->Prop}{n:Nat}(Bm b:Nat)(L:List (Jk×Tsk))(h:∀p∈L,a (i p.2)=p.2)(w:Z)(f:¬ex b)(d:Bm<w.1.size)(u:w.cell? (U Bm 0)=E (.map (E b)))(c:xe xY w b L):
  vZ ex n prog 158 #[(O Bm)] (fun x:α=>#[.agg #[.iface (a x).jt (.agg #[I (a x).s.t,I (a x).s.sr,I (a x).s.wn]),I (a x).se,I (a x).ti,I (a x).rest]]) (fun xs=>∃ps:List (Jk×Tsk),ps.Perm L/\xs=ps.map (fun p:Jk×Tsk=>i p.2)) L.length w:=
 fun m v l J k W j g q e r o=>znG a i l Bm b L h f J k W g q e r ((j.cell (p:=(U Bm 0)) d).trans u) (c.later j) o
theorem zmB:∀args w,(callFunc 158 args).run prog w=.ok (.enter 158 args) w:=enters_of func158 (by kernel_rfl) rfl
attribute [local go_sem] Oper.semAt_some
theorem zla{α:Type}(f:α->Tsk)(o:Tsk->α)(l Bm b:Nat)(L:List (Jk×Tsk))(ad:∀p∈L,f (o p.2)=p.2)(J Jx:List α->Z->Prop)(W:Z)(hJ:OwnFrom W.1.size J)(R:OwnFrom W.1.size Jx)
  (hY:∀h x V,J h V->h.length<L.length->YieldAt Fence.wide 5 prog l #[.agg #[.iface (f x).jt (.agg #[I (f x).s.t,I (f x).s.sr,I (f x).s.wn]),I (f x).se,I (f x).ti,I (f x).rest]] V fun e V'=>(e=.returned (.bool true)/\J (h++[x]) V'/\KeepsWalks V V')\/(e=.returned (.bool false)/\Jx (h++[x]) V'/\KeepsWalks V V'))
  (hm:W.cell? (U Bm 0)=E (.map (E b))) (a3:xe xY W b L) (h0:J [] W):
  CallsIn Fence.wide 6 prog 158 #[.func (.yield l) #[] #[],(O Bm)] W fun e W'=>(∃v,e=.returned v)/\
   ((∃xs,(∃ps:List (Jk×Tsk),ps.Perm L/\xs=ps.map (fun p:Jk×Tsk=>o p.2))/\J xs W')\/(∃h,True/\Jx h W')):=by
 obtain⟨m,a,hb,he⟩:=a3
 have ab:=zd hb
 have g:=run_range_map (P:=prog) W 169 _ _ b m a underlying169 hb
 have HE:=ze he
 have q:=ze hJ
 have ag:=he.count
 refine callsIn_of_wp func158 rfl trivial ?_ rfl
 simp only[ntmps158,sZz,Nat.reduceAdd,Nat.reduceSub]
 gi_wp2
 gi_loopw [4] (fun _ wr=>∃(c:Array Nat) (N:Nat) (ps:List MapEntry),wr.1[W.1.size]?=E (.mapIter (E b) a c N)/\a<=N/\wr.1[b]?=E (.map m a)/\zdt m c ps/\J ((ps.map (kj xY L)).map (fun p:Jk×Tsk=>o p.2)) wr)
  (fun _ wr=>jR m W.1.size wr)
 case atStart=>
  exact⟨#[],a,[],zp _ _,Y _,(Below.heap_alloc _ _ _ ab).trans hb,⟨by simp,by simp,by simp⟩,zO (ud q) h0 ((G _ _).alloc (Y _) _)⟩
 case round=>
  obtain⟨c,N,ps,F,ac,z,hC,Q⟩:=hrel
  have af:=zd F
  have HC:=ze hC
  rcases run_next_at (P:=prog) wr 0 W.1.size b a N c m a F z (ud HE).born ac with⟨hz,d⟩|⟨e,j,w1,k,d⟩
  ·have HZ:=ze hz
   clear g hz hC he hJ R
   gi_wp2
   go_end0
   exact⟨⟨_,rfl⟩,.inl ⟨_,⟨_,jA yT (ud HE) ((ud HC).all (ud HE).once (ud HZ)),rfl⟩,Q⟩⟩
  ·have H:=ze j
   obtain⟨A,_⟩:=xw.1 j
   have a4:w1.1[W.1.size]?=E (.mapIter (E b) a c N):=by rcases k with rfl|rfl<;>exact F
   have T:w1.1[b]?=E (.map m a):=by rcases k with rfl|rfl<;>exact z
   have ae:b≠W.1.size:=by omega
   obtain⟨X,D⟩:∃X,setBlock w1 W.1.size (.mapIter (E b) a (c.push e.born) a)=X:=⟨_,rfl⟩
   have w:X.1[W.1.size]?=E (.mapIter (E b) a (c.push e.born) a):=by rw[<-D];exact xL (zd a4) _
   have u:X.1[b]?=E (.map m a):=by rw[<-D,xi ae];exact T
   have a2:wr.grownBy X (E W.1.size):=by
    rw[<-D];rcases k with rfl|rfl
    ·exact xt _ _ _
    ·have:=xt wr.drew W.1.size (.mapIter (E b) a (c.push e.born) a)
     exact⟨this.os,this.tape,this.output,this.size,this.block⟩
   rw[D]at d
   have n:=run_entry_at (P:=prog) X W.1.size b a c m a e w u A (ud HE).once
   obtain⟨a1,hk,hv⟩:=ZS yT he A
   have i:e.val=Qb (f (o (kj xY L e).2)):=by rw[ad _ a1];exact hv
   unfold Qb at i
   rw[i]at d n
   have a9:J ((ps.map (kj xY L)).map (fun p:Jk×Tsk=>o p.2)) X:=ud q _ wr X (E W.1.size) Q a2 (fun r e=>by cases e;exact⟨Y _,_,F,rfl⟩)
   obtain⟨y,C⟩:∃y,o (kj xY L e).2=y:=⟨_,rfl⟩
   have a7:Hid ((fun p:Jk×Tsk=>o p.2) (kj xY L e)=y):=C
   rw[C]at d n
   have a0:=(G X.1.size X).alloc (Y _) (.cells #[.iface (f y).jt (.agg #[I (f y).s.t,I (f y).s.sr,I (f y).s.wn]),I (f y).se,I (f y).ti,I (f y).rest] 177)
   obtain⟨fn,tmps,assign,body,hy,hR⟩:=hY ((ps.map (kj xY L)).map (fun p:Jk×Tsk=>o p.2)) y _ (zO (ud q) a9 a0) (by rw[List.length_map,List.length_map];have:=hC.lt j;omega)
   have M:=ze w
   have K:=ze u
   have HX:=ze D
   have a6:=ze F
   clear g hC he w u D A a4 T hv hk a2 i F z j k a1 C a0 hJ R
   gi_wp2
   refine hR.mono ?_
   rintro e3 W3 (⟨rfl,a8,B⟩|⟨rfl,S,B⟩)
   ·gi_wp2
    have a5:=B.same W.1.size _ ((Below.heap_alloc _ _ _ (zd (ud M))).trans (ud M)) rfl
    have aa:=B.same b _ ((Below.heap_alloc _ _ _ (zd (ud K))).trans (ud K)) rfl
    go_roundw
    case rel=>exact⟨_,_,ps++[e],a5,Y _,aa,(ud HC).step (ud H),by rw[List.map_append,List.map_append,List.map_singleton,List.map_singleton,ud a7];exact a8⟩
    case measure=>rw[xn a5,xn (ud a6)];exact qI (ud H)
   ·gi_wp2
    refine bodyPost_ret (results_none rfl _ _ _) rfl ?_
    exact⟨⟨_,rfl⟩,.inr ⟨_,trivial,S⟩⟩
theorem znH{α:Type}(a:α->Tsk)(g:Tsk->α)(Bm b:Nat)(L:List (Jk×Tsk))(f:∀p∈L,a (g p.2)=p.2)(w:Z)(d:Bm<w.1.size)(n:w.cell? (U Bm 0)=E (.map (E b)))(c:xe xY w b L):
  Yb Fence.wide 6 prog 158 #[(O Bm)] (fun x:α=>#[.agg #[.iface (a x).jt (.agg #[I (a x).s.t,I (a x).s.sr,I (a x).s.wn]),I (a x).se,I (a x).ti,I (a x).rest]]) KeepsWalks (fun xs=>∃ps:List (Jk×Tsk),ps.Perm L/\xs=ps.map (fun p:Jk×Tsk=>g p.2)) (fun _=>True) L.length 0 w:=
 fun l J i W h _ k e m j=>zla a g l Bm b L f J i W k e m ((h.cell (p:=(U Bm 0)) d).trans n) (c.later h) j
def Vf(x:Tsk):List Value:=[(jZz x),I x.se,I x.ti,I x.rest]
theorem zaa(x:Tsk):(Vf x).length=4:=rfl
theorem zeB(x:Tsk):∀v∈Vf x,v.oneCell'=true:=fun v hv=>by
 simp only[Vf,List.mem_cons,List.not_mem_nil,or_false]at hv
 rcases hv with rfl|rfl|rfl|rfl<;>rfl
theorem Zx{W c:Z}{a:Option Nat}{base:Nat}{e:TypeId}{size:Nat}{v:Value}{k:Nat}{xs:List Value}(h:W.ownsRow base e size v k xs)(j:W.grownBy c a)(l:∀r,a=E r->∃o:Obj,W.1[r]?=E o/\o.isCells=false):c.ownsRow base e size v k xs:=by
 refine h.kept j ?_
 rcases h.2 with⟨rfl,_⟩|⟨g,cap,f,rfl,_,b,_⟩
 ·exact .inl rfl
 ·refine .inr fun i=>?_
  obtain⟨o,d,m⟩:=l g (by simpa[Value.ownBlock]using i.symm)
  rw[b]at d;cases d;cases m
attribute [local go_sem] Oper.semAt_some
theorem zhY(l Bm b:Nat)(L:List (Sg×SX))(J Jx:List SX->Z->Prop)(W:Z)(hJ:OwnFrom W.1.size J)(I:OwnFrom W.1.size Jx)
  (hY:∀g x V,J g V->g.length<L.length->YieldAt Fence.wide 5 prog l #[.agg (xZz x)] V fun e V'=>(e=.returned (.bool true)/\J (g++[x]) V'/\KeepsWalks V V')\/(e=.returned (.bool false)/\Jx (g++[x]) V'/\KeepsWalks V V'))
  (hm:W.cell? (U Bm 0)=E (.map (E b))) (S:xe yx W b L) (h0:J [] W):
  CallsIn Fence.wide 6 prog 150 #[.func (.yield l) #[] #[],(O Bm)] W fun e W'=>(∃v,e=.returned v)/\
   ((∃xs,(∃ps:List (Sg×SX),ps.Perm L/\xs=ps.map (fun p:Sg×SX=>p.2))/\J xs W')\/(∃g,True/\Jx g W')):=by
 obtain⟨k,a,hb,Q⟩:=S
 have a6:=zd hb
 have f:=run_range_map (P:=prog) W 152 _ _ b k a underlying152 hb
 have HE:=ze Q
 have n:=ze hJ
 have ab:=Q.count
 refine callsIn_of_wp func150 rfl trivial ?_ rfl
 simp only[ntmps150,sZz,Nat.reduceAdd,Nat.reduceSub]
 gi_wp2
 gi_loopw [4] (fun _ wr=>∃(c:Array Nat) (F:Nat) (ps:List MapEntry),wr.1[W.1.size]?=E (.mapIter (E b) a c F)/\a<=F/\wr.1[b]?=E (.map k a)/\zdt k c ps/\J ((ps.map (kj yx L)).map (fun p:Sg×SX=>p.2)) wr)
  (fun _ wr=>jR k W.1.size wr)
 case atStart=>
  exact⟨#[],a,[],zp _ _,Y _,(Below.heap_alloc _ _ _ a6).trans hb,⟨by simp,by simp,by simp⟩,zO (ud n) h0 ((G _ _).alloc (Y _) _)⟩
 case round=>
  obtain⟨c,F,ps,A,a7,s,hC,H⟩:=hrel
  have aa:=zd A
  have HC:=ze hC
  rcases run_next_at (P:=prog) wr 0 W.1.size b a F c k a A s (ud HE).born a7 with⟨hz,d⟩|⟨e,i,w1,j,d⟩
  ·have HZ:=ze hz
   clear f hz hC Q hJ I
   gi_wp2
   go_end0
   exact⟨⟨_,rfl⟩,.inl ⟨_,⟨_,jA Xk (ud HE) ((ud HC).all (ud HE).once (ud HZ)),rfl⟩,H⟩⟩
  ·have B:=ze i
   obtain⟨t,_⟩:=xw.1 i
   have T:w1.1[W.1.size]?=E (.mapIter (E b) a c F):=by rcases j with rfl|rfl<;>exact A
   have M:w1.1[b]?=E (.map k a):=by rcases j with rfl|rfl<;>exact s
   have a9:b≠W.1.size:=by omega
   obtain⟨X,z⟩:∃X,setBlock w1 W.1.size (.mapIter (E b) a (c.push e.born) a)=X:=⟨_,rfl⟩
   have q:X.1[W.1.size]?=E (.mapIter (E b) a (c.push e.born) a):=by rw[<-z];exact xL (zd T) _
   have o:X.1[b]?=E (.map k a):=by rw[<-z,xi a9];exact M
   have R:wr.grownBy X (E W.1.size):=by
    rw[<-z];rcases j with rfl|rfl
    ·exact xt _ _ _
    ·have:=xt wr.drew W.1.size (.mapIter (E b) a (c.push e.born) a)
     exact⟨this.os,this.tape,this.output,this.size,this.block⟩
   rw[z]at d
   have m:=run_entry_at (P:=prog) X W.1.size b a c k a e q o t (ud HE).once
   obtain⟨a8,hk,hv⟩:=ZS Xk Q t
   have h:e.val=kN ((kj yx L e).2):=hv
   unfold kN at h
   rw[h]at d m
   have a4:J ((ps.map (kj yx L)).map (fun p:Sg×SX=>p.2)) X:=ud n _ wr X (E W.1.size) H R (fun r e=>by cases e;exact⟨Y _,_,A,rfl⟩)
   obtain⟨y,w⟩:∃y,(kj yx L e).2=y:=⟨_,rfl⟩
   have a2:Hid ((fun p:Sg×SX=>p.2) (kj yx L e)=y):=w
   rw[w]at d m
   have N:=(G X.1.size X).alloc (Y _) (.cells (xZz y) 148)
   obtain⟨fn,tmps,assign,body,hy,hR⟩:=hY ((ps.map (kj yx L)).map (fun p:Sg×SX=>p.2)) y _ (zO (ud n) a4 N) (by rw[List.length_map,List.length_map];have:=hC.lt i;omega)
   have D:=ze q
   have C:=ze o
   have HX:=ze z
   have a1:=ze A
   clear f hC Q q o z t T M hv hk R h A s i j a8 w N hJ I
   gi_wp2
   refine hR.mono ?_
   rintro e3 W3 (⟨rfl,a3,u⟩|⟨rfl,K,u⟩)
   ·gi_wp2
    have a0:=u.same W.1.size _ ((Below.heap_alloc _ _ _ (zd (ud D))).trans (ud D)) rfl
    have a5:=u.same b _ ((Below.heap_alloc _ _ _ (zd (ud C))).trans (ud C)) rfl
    go_roundw
    case rel=>exact⟨_,_,ps++[e],a0,Y _,a5,(ud HC).step (ud B),by rw[List.map_append,List.map_append,List.map_singleton,List.map_singleton,ud a2];exact a3⟩
    case measure=>rw[xn a0,xn (ud a1)];exact qI (ud B)
   ·gi_wp2
    refine bodyPost_ret (results_none rfl _ _ _) rfl ?_
    exact⟨⟨_,rfl⟩,.inr ⟨_,trivial,K⟩⟩
theorem zkZ(Bm b:Nat)(L:LV)(w:Z)(c:Bm<w.1.size)(q:w.cell? (U Bm 0)=E (.map (E b)))(a:xe yx w b (vC L)):
  Yb Fence.wide 6 prog 150 #[(O Bm)] (fun x:SX=>#[.agg (xZz x)]) KeepsWalks (fun xs=>xs.Perm L) (fun _=>True) L.length 0 w:=
 fun l J i W g _ n d o j=>(zhY l Bm b (vC L) J i W n d (by rw[Kk];exact o) ((g.cell (p:=(U Bm 0)) c).trans q) (a.later g) j).mono (by
  rintro e r ⟨f,⟨xs,⟨ps,k,rfl⟩,m⟩|h⟩
  ·exact⟨f,.inl ⟨_,Kl k,m⟩⟩
  ·exact⟨f,.inr h⟩)
attribute [local go_sem] Oper.semAt_some
theorem zkn:(prog.info? 177).map (fun i=>(i.zero,i.size,i.bytes))=E (E (.agg #[.nilIface,I 0,I 0,I 0]),4,40):=by kernel_rfl
theorem zmZ:∃i:TypeInfo,prog.info? 177=E i/\i.zero=E (.agg #[.nilIface,I 0,I 0,I 0])/\i.size=4/\i.bytes=40:=by
 have h:=zkn
 cases a:prog.info? 177 with
 |none=>simp[a]at h
 |some i=>
  simp only[a,Option.map_some,Option.some.injEq,Prod.mk.injEq]at h
  exact⟨i,rfl,h.1,h.2.1,h.2.2⟩
def apI(w:Z)(a:List Tsk)(W:Z):Prop:=∃v,W.1[w.1.size]?=E (.cells #[v] 186 (0,0))/\W.ownsRow w.1.size 177 4 v a.length (a.flatMap Vf)/\Below w.1.size w W
theorem apI.later{w:Z}{a:List Tsk}{W c:Z}(h:apI w a W)(b:Below W.1.size W c):apI w a c:=by
 obtain⟨v,d,i,g⟩:=h
 exact⟨v,(b.block _ (zd d)).trans d,zi i (zh.of_below (f:=fun _=>False) b) (fun _ _ e=>e),g.trans (b.mono g.size)⟩
theorem zff{W c:Z}{base:Nat}{e:TypeId}{size:Nat}{v:Value}{n:Nat}{xs:List Value}(i:W.ownsRow base e size v n xs)(d:W.grownBy c v.ownBlock)(B:Nat):KeepsFrom B W c/\KeepsWalks W c:=by
 have key:∀(k:Nat) (o:Obj),W.1[k]?=E o->o.isCells=false->c.1[k]?=E o:=fun k o a b=>(d.block k (zd a) (fun e=>by
  rcases i.2 with⟨rfl,_⟩|⟨g,cap,h,rfl,_,f,_⟩
  ·simp[Value.ownBlock]at e
  ·have:k=g:=by simpa[Value.ownBlock]using e
   subst this;rw[f]at a;cases a;cases b)).trans a
 exact⟨⟨d.size,fun k o _ a b=>key k o a b⟩,⟨d.size,fun k o a b=>key k o a (Obj.not_cells_of_walk b)⟩⟩
theorem zfJ{F:Fence}{n:Nat}{W:Z}{ops:Array Oper}{rest:List Oper}{o:Oper}{a:Act}{Q:Exit->Act->Z->Prop}(m:o.guard=none)(s x:Operand)
  (A:o.op=.call {callee:=.builtin .append,args:=#[s,x],argTypes:=#[186,186]}) (base:Nat) (v:Value) (l:List Tsk) (f:Tsk) (B:a.eval s=v) (e:W.ownsRow base 177 4 v l.length (l.flatMap Vf))
  (i:Nat) (C:a.eval x=.slice (E (U i 0)) 1 1) (j:W.1[i]?=E (.cells (tZz f) 177 (0,0))) (H:l.length<=1000000) (hbase:base<=W.1.size)
  (h:∀g cap w',w'.ownsRow base 177 4 (.slice (E (U g 0)) (l.length+1) cap) (l++[f]).length ((l++[f]).flatMap Vf)->W.grownBy w' v.ownBlock->g<w'.1.size->wpListIn F n prog ops Q rest (a.put o.dst (.slice (E (U g 0)) (l.length+1) cap)) w'):wpListIn F n prog ops Q (o::rest) a W:=by
 obtain⟨i0,z,p,q,r⟩:=zmZ
 refine wpListIn_append_own_at W m s x 186 A base 177 i0 (.agg #[.nilIface,I 0,I 0,I 0]) 4 40 underlying186 z p q r rfl (by decide) v l.length _ B e (U i 0) 1 1 (Vf f) C rfl (World.news_of_block (cs:=(Vf f).toArray) j) (zeB f) (by simp only[maxLen];omega) (by omega) hbase ?_
 intro J D b k t w
 obtain⟨y,c,rfl,u,d⟩:=b.form (by omega)
 exact h y c D (zkO b) k d
theorem zhd(gf:Nat)(lb:Array Value)(eg:∀args w,(callFunc gf args).run prog w=.ok (.enter gf args) w){N:Nat}{S:List Tsk->Prop}(w:Z)(hN:N<=1000000)
  (q:Yb Fence.wide 6 prog gf lb (fun x:Tsk=>#[.agg (tZz x)]) KeepsWalks S (fun _=>True) N 0 w):
  Calls prog 228 #[.slice none 0 0,.func (.func gf) #[] lb] w fun e w'=>∃xs v,S xs/\e=.returned v/\w'.ownsRow w.1.size 177 4 v xs.length (xs.flatMap Vf)/\Below w.1.size w w':=by
 have M:=ze q
 have a0:=ze eg
 have b1:=zp w zmv
 have bz:=zN w zmv
 have V:Below w.1.size w (w.alloc zmv):=(G _ _).alloc (Y _) _
 clear q eg
 refine(callsIn_wide (n:=7)).1 ?_
 refine callsIn_of_wp_marks func228 rfl trivial ?_ rfl
 simp only[ntmps228,sZz,Nat.reduceAdd,Nat.reduceSub]
 have B1:=ze b1
 have t:=ze V
 have BZ:=ze bz
 clear b1 V bz
 gi_wp2
 obtain⟨W0,T⟩:∃W0,(w.alloc zmv)=W0:=⟨_,rfl⟩
 rw[T]at B1 t BZ ⊢
 clear T
 have hz:W0.1.size=w.1.size+1:=ud BZ
 refine qU (F:=Fence.wide) (n:=7) rfl (by omega) (gf:=gf) (lb:=lb) rfl trivial (ud a0) (ud M) (by omega) (fun h k=>h.trans k) (fun W o o' h hc hw=>KeepsWalks.putObj _ h hw) (ud t) (fun _=>rfl)
  (apI w) (fun _ _ _=>False)
  (fun s A B a7 hs y z=>by
   obtain⟨v,Q,h2,R⟩:=hs
   exact⟨v,zu Q y (fun r e=>(z r e).2),Zx h2 y (fun r e=>(z r e).2),R.grown y R.size (fun k e=>by have:=(z k e).1;omega)⟩)
  (fun _ _ _ _ _ hs _ _=>hs)
  ⟨_,ud B1,⟨rfl,.inl ⟨rfl,rfl⟩⟩,ud t⟩
  (fun x a' W=>∃H,w.1.size+1<=H/\W.1[H]?=E (.cells (tZz x) 177 (0,0))/\a'={tmps:=#[.slice none 0 0,.func (.func gf) #[] lb,(O w.1.size),undef,.slice none 0 0,(O H),.func (.func gf) #[] lb,.agg (tZz x),undef,undef,undef,undef,undef],defers:=[]})
  (fun x a' s A B a7 hs y z=>by
   obtain⟨H,Q,h2,R⟩:=hs
   exact⟨H,Q,zu h2 y (fun r e=>(z r e).2),R⟩) ?assign ?body ?done ?stop
 case assign=>
  rintro l d x W K hI I
  have HK:=ze I
  have HI:=ze hI
  clear I hI
  gi_wp2
  have g:=(G W.1.size W).alloc (Y _) (.cells (tZz x) 177)
  have ad:w.1.size<W.1.size:=by obtain⟨v,Q,h2,R⟩:=ud HI;exact zd Q
  exact ud HK _ _ (zk g) (KeepsWalks.alloc _ _) ((ud HI).later g) ⟨W.1.size,by omega,zp _ _,rfl⟩
 case body=>
  rintro l d x a' W hl ⟨r,z⟩ ⟨v,C,i2,i3⟩ ⟨H,ab,hx,rfl⟩ ac
  obtain⟨va,vc,rfl⟩:=zS i2
  have a6:=zd C
  have ae:=zd hx
  obtain⟨c1,-⟩:=zc C
  obtain⟨x0,x1,x2,x3,-⟩:=zc hx
  have L:=ze C
  have a:=ze i2
  have u:=ze i3
  have HX:=ze hx
  clear C i2 i3 hx z
  gi_wp2_with (first
   |(gi_at_builtin;refine zfJ rfl _ _ rfl w.1.size _ d x rfl ((ud a).alloc _) W.1.size rfl (zp _ _) (by omega) (by rw[zN];omega) ?_;intro g' a8 w3 b j a9
     have X:=zff ((ud a).alloc (.cells (tZz x) 177)) j W0.1.size
     have P:w3.1[w.1.size]?=E (.cells #[.slice va d.length vc] 186 (0,0)):=(j.block w.1.size (by rw[zN];omega) (fun e=>zr (ud L) (ud a) (by decide) w.1.size e.symm rfl)).trans ((Below.heap_alloc _ _ _ a6).trans (ud L))
     obtain⟨d1,-⟩:=zc P
     have f1:w3.frozen? (U w.1.size 0)=false:=zv P 0
     have aa:=zd P
     have a3:=ze b
     have a1:=ze j
     have a2:=ze X
     have J:=ze P
     clear b j X P
     go_frame)
   |gi_in)
  have hk:=ud a2
  have y:(W.alloc (.cells (tZz x) 177)).grownBy w3 (Value.slice va d.length vc).ownBlock:=ud a1
  have m:=ud a3
  have hb:=ud u
  have g:=(G W.1.size W).alloc (Y _) (.cells (tZz x) 177)
  have a4:Below w.1.size w w3:=(hb.alloc hb.size _).grown y (by have:=hb.size;rw[zN];omega) (fun k e=>((ud a).lt k e).1)
  refine⟨((zk g).trans hk.1).trans ((KeepsOthers.setCell w3 (U w.1.size 0) _).from _),((KeepsWalks.alloc _ _).trans hk.2).trans (KeepsWalks.setCell _ _ _),?_⟩
  exact⟨_,xy (i:=0) (ud J) _,zi m (zg (f:=fun k=>k=w.1.size) (zh.refl _ _) rfl) (fun k a5 e=>zr (ud J) m (by decide) k a5 e),a4.setCell (p:=(U w.1.size 0)) (Y _) _⟩
 case done=>
  rintro D xs W hD hS ⟨v,C,i2,i3⟩ I
  obtain⟨va,vc,rfl⟩:=zS i2
  obtain⟨c2,-⟩:=zc C
  have a:=ze i2
  have u:=ze i3
  clear C i2 i3
  gi_wp2
  refine⟨by simp,.inl ⟨_,_,rfl,run_takeDeferred I,?_⟩⟩
  exact⟨_,results_tmp rfl _ _ _,xs,_,hS,rfl,Zx (ud a) (grownBy_putObj' _ _ _) (fun r e=>by cases e;exact⟨_,I,rfl⟩),xu (ud u) (Y _) (by omega) I _⟩
 case stop=>
  rintro D c d W _ _ h _
  exact h.elim
end Go.Proofs.YtndhpgciopcncaaGreatDoor
