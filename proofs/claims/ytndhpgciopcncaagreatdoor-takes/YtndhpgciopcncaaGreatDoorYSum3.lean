import Derived.Test.YtndhpgciopcncaaGreatDoorYWhr0
open Option renaming some → I
open Go.Value renaming int → O
open Go.IntKind renaming i64 → E
open Nat renaming le_refl → Q
open Option renaming none → U
open Go renaming World → Y
open Go.RowKit.Below renaming refl → Z
open Go.IntKind (i32)
set_option linter.unusedVariables false
set_option maxRecDepth 100000
set_option maxHeartbeats 2000000
open Go.Proofs.Tryz
namespace Go.Proofs.YtndhpgciopcncaaGreatDoor
open Go.ChangeMaps (setBlock)
open Go.RowKit Go.Maps Go.Shelf
attribute [local go_sem] Oper.semAt_some
theorem zfy{α:Type}(b:α->Sg)(gf:Nat)(lb:Array Value)(eg:∀args w,(callFunc gf args).run prog w=.ok (.enter gf args) w){ex:Nat->Prop}{n N:Nat}{S:List α->Prop}(f:α->Int)(w:Y)(hn:n<=w.1.size)
  (R:∀(x:α) (W:Y),Below w.1.size w W->Calls prog 182 #[.agg #[O E (b x).t,O E (b x).se,O E (b x).wn]] W fun e W'=>e=.returned (O E (f x))/\Below W.1.size W W')
  (m:jW ex n prog gf lb (fun x:α=>#[.agg #[O E (b x).t,O E (b x).se,O E (b x).wn]]) S N w):
  Calls prog 181 #[.func (.func gf) #[] lb,.func (.func 182) #[] #[]] w fun e w'=>∃xs,S xs/\e=.returned (O E (kW (xs.map f)))/\Below w.1.size w w':=by
 have C:=zd R
 have G:=zd m
 have a1:=zd eg
 obtain⟨b1,b2,M,bz⟩:=box2 w (.cells #[.func (.func 182) #[] #[]] 261) (.cells #[O E 0] 3)
 clear R m eg
 refine(callsIn_wide (n:=7)).1 ?_
 refine callsIn_of_wp_marks func181 rfl trivial ?_ rfl
 simp only[ntmps181,List.size_toArray,List.length_cons,List.length_nil,Nat.reduceAdd,Nat.reduceSub,Array.replicate_succ,Array.replicate_zero,List.push_toArray,List.append_toArray,List.nil_append,List.cons_append]
 have B1:=zd b1
 have B2:=zd b2
 have q:=zd M
 have BZ:=zd bz
 clear b1 b2 M bz
 gi_wp2
 obtain⟨W0,J⟩:∃W0,((w.alloc (.cells #[.func (.func 182) #[] #[]] 261)).alloc (.cells #[O E 0] 3))=W0:=⟨_,rfl⟩
 rw[J]at B1 B2 q BZ ⊢
 clear J
 have hz:W0.1.size=w.1.size+2:=ud BZ
 refine yM (F:=Fence.wide) (n:=7) rfl (by omega) (gf:=gf) (lb:=lb) rfl trivial (ud a1) (ud G (w.1.size+4) (by omega)) (by omega) (fun h k=>h.trans k) (fun W o o' h hc hw=>KX.putObj o' (by omega) (by omega) h hw) (ud q) (fun _=>rfl)
  (fun d W=>W.1[w.1.size]?=I (.cells #[.func (.func 182) #[] #[]] 261 (0,0))/\W.1[w.1.size+1]?=I (.cells #[O E (kW (d.map f))] 3 (0,0))/\Below w.1.size w W)
  (fun _ _ _=>False)
  (fun s A B row j P y=>⟨zI j.1 P (fun r e=>(y r e).2),zI j.2.1 P (fun r e=>(y r e).2),j.2.2.grown P (j.2.2.size) (fun k e=>by have:=(y k e).1;omega)⟩)
  (fun _ _ _ _ _ j _ _=>j)
  ⟨ud B1,ud B2,ud q⟩
  (fun x a' W=>∃v,w.1.size+2<=v/\W.1[v]?=I (.cells #[O E (b x).t,O E (b x).se,O E (b x).wn] 146 (0,0))/\a'={tmps:=#[.func (.func gf) #[] lb,.func (.func 182) #[] #[],undef,.pointer (I ⟨w.1.size,0,U⟩),O E 0,.pointer (I ⟨w.1.size+1,0,U⟩),.pointer (I ⟨v,0,U⟩),.func (.func gf) #[] lb,.agg #[O E (b x).t,O E (b x).se,O E (b x).wn],undef,undef,undef,undef,undef,undef],defers:=[]})
  (fun x a' s A B row j P y=>by
   obtain⟨v,h1,h2,h3⟩:=j
   exact⟨v,h1,zI h2 P (fun r e=>(y r e).2),h3⟩) ?assign ?body ?done ?stop
 case assign=>
  rintro l d x W K ⟨u,i2,i3⟩ H
  have V:=i3.size
  have a4:=zb i2
  have HK:=zd H
  clear H
  gi_wp2
  have L:=(Z W.1.size W).alloc (Q _) (.cells #[O E (b x).t,O E (b x).se,O E (b x).wn] 146)
  refine ud HK _ _ (zw L) (KX.of_below L) ⟨(Below.heap_alloc _ _ _ (by omega)).trans u,(Below.heap_alloc _ _ _ (by omega)).trans i2,i3.alloc V _⟩ ⟨W.1.size,by omega,zr _ _,rfl⟩
 case body=>
  rintro l d x a' W hl ⟨r,y⟩ ⟨u,i2,i3⟩ ⟨v,a2,X,rfl⟩ a5
  have V:=i3.size
  have a3:=zb X
  have T:=zb i2
  obtain⟨c1,-⟩:=zc u
  obtain⟨c2,-⟩:=zc i2
  have f2:W.frozen? ⟨w.1.size+1,0,U⟩=false:=zH i2 0
  obtain⟨x0,x1,x2,-⟩:=zc X
  have HI:=zd i2
  have z:=zd u
  have g:=zd i3
  have HX:=zd X
  have a6:prog.follows .mixedOrders=true:=by kernel_rfl
  have HC:=zd (ud C x W i3)
  have a0:=zd (ud C x W.drew i3.drew)
  clear u i2 i3 X
  gi_wp2
  gi_region_with_o (refine⟨trivial,?_⟩;gi_at_call 182;(first|refine(CallsIn.inRound l (callsIn_wide.2 (ud HC))).mono ?_|refine(CallsIn.inRound l (callsIn_wide.2 (ud a0))).mono ?_);rintro e w' ⟨rfl,i⟩;have d2:w'.cell? ⟨w.1.size+1,0,U⟩=I (O E (kW (d.map f))):=(i.cell (p:=⟨w.1.size+1,0,U⟩) T).trans c2;have e2:w'.frozen? ⟨w.1.size+1,0,U⟩=false:=zH ((i.block _ T).trans (ud HI)) 0;have a:=zd i;clear i)
  all_goals gi_wp2
  all_goals(try go_bits)
  all_goals(first|(rw[hz];exact kg (x:=x) rfl hn (ud z) (ud HI) (ud g) ⟨(ud a).os,(ud a).tape,(ud a).output,(ud a).size,(ud a).block⟩)|exact kg (x:=x) rfl hn (ud z) (ud HI) (ud g) ⟨(ud a).os,(ud a).tape,(ud a).output,(ud a).size,(ud a).block⟩)
 case done=>
  rintro D xs W hD hS ⟨u,i2,i3⟩ H
  obtain⟨c2,-⟩:=zc i2
  have g:=zd i3
  clear u i2 i3
  gi_wp2
  refine⟨by simp,.inl ⟨_,_,rfl,run_takeDeferred H,?_⟩⟩
  exact⟨_,results_tmp rfl _ _ _,xs,hS,rfl,xE (ud g) (Q _) (by omega) H _⟩
 case stop=>
  rintro D c d W _ _ h _
  exact h.elim
attribute [local go_sem] Oper.semAt_some
theorem zgr{ex:Nat->Prop}{n m:Nat}(l Bm b:Nat)(L:List (Sg×SX))(ac:¬ex b)(J Jx:List SX->Y->Prop)(W:Y)(ae:m<=W.1.size)(hJ:OwnFrom W.1.size J)(N:OwnFrom W.1.size Jx)
  (hY:∀g x V,J g V->g.length<L.length->YieldAt Fence.wide 5 prog l #[.agg #[O E x.1.t,O E x.1.se,O E x.1.wn,O E x.2.st,O E x.2.cl.cnt,O E x.2.cl.sum,O i32 x.2.cl.mn,O i32 x.2.cl.mx]] V fun e V'=>(e=.returned (.bool true)/\J (g++[x]) V'/\KX ex n m V V')\/(e=.returned (.bool false)/\Jx (g++[x]) V'/\KX ex n m V V'))
  (hm:W.cell? ⟨Bm,0,U⟩=I (.map (I b))) (a1:xj qN W b L) (h0:J [] W):
  CallsIn Fence.wide 6 prog 150 #[.func (.yield l) #[] #[],.pointer (I ⟨Bm,0,U⟩)] W fun e W'=>(∃v,e=.returned v)/\
   ((∃xs,(∃ps:List (Sg×SX),ps.Perm L/\xs=ps.map (fun p:Sg×SX=>p.2))/\J xs W')\/(∃g,True/\Jx g W')):=by
 obtain⟨k,a,hb,he⟩:=a1
 have a9:=zb hb
 have f:=run_range_map (P:=prog) W 152 _ _ b k a underlying152 hb
 have HE:=zd he
 have q:=zd hJ
 have ag:=he.count
 refine callsIn_of_wp func150 rfl trivial ?_ rfl
 simp only[ntmps150,List.size_toArray,List.length_cons,List.length_nil,Nat.reduceAdd,Nat.reduceSub,Array.replicate_succ,Array.replicate_zero,List.push_toArray,List.append_toArray,List.nil_append,List.cons_append]
 gi_wp2
 gi_loopw [4] (fun _ wr=>∃(c:Array Nat) (K:Nat) (ps:List MapEntry),wr.1[W.1.size]?=I (.mapIter (I b) a c K)/\a<=K/\wr.1[b]?=I (.map k a)/\zdF k c ps/\J ((ps.map (jn qN L)).map (fun p:Sg×SX=>p.2)) wr)
  (fun _ wr=>QK k W.1.size wr)
 case atStart=>
  exact⟨#[],a,[],zr _ _,Q _,(Below.heap_alloc _ _ _ a9).trans hb,⟨by simp,by simp,by simp⟩,xr (ud q) h0 ((Z _ _).alloc (Q _) _)⟩
 case round=>
  obtain⟨c,K,ps,D,aa,w,hC,M⟩:=hrel
  have af:=zb D
  have HC:=zd hC
  rcases run_next_at (P:=prog) wr 0 W.1.size b a K c k a D w (ud HE).born aa with⟨hz,d⟩|⟨e,i,w1,j,d⟩
  ·have HZ:=zd hz
   clear f hz hC he hJ N
   gi_wp2
   go_end0
   exact⟨⟨_,rfl⟩,.inl ⟨_,⟨_,XX Z8 (ud HE) ((ud HC).all (ud HE).once (ud HZ)),rfl⟩,M⟩⟩
  ·have F:=zd i
   obtain⟨z,_⟩:=xM.1 i
   have a2:w1.1[W.1.size]?=I (.mapIter (I b) a c K):=by rcases j with rfl|rfl<;>exact D
   have S:w1.1[b]?=I (.map k a):=by rcases j with rfl|rfl<;>exact w
   have ad:b≠W.1.size:=by omega
   obtain⟨X,C⟩:∃X,setBlock w1 W.1.size (.mapIter (I b) a (c.push e.born) a)=X:=⟨_,rfl⟩
   have u:X.1[W.1.size]?=I (.mapIter (I b) a (c.push e.born) a):=by rw[<-C];exact qO (zb a2) _
   have s:X.1[b]?=I (.map k a):=by rw[<-C,qr ad];exact S
   have a0:wr.grownBy X (I W.1.size):=by
    rw[<-C];rcases j with rfl|rfl
    ·exact qq _ _ _
    ·have:=qq wr.drew W.1.size (.mapIter (I b) a (c.push e.born) a)
     exact⟨this.os,this.tape,this.output,this.size,this.block⟩
   rw[C]at d
   have o:=run_entry_at (P:=prog) X W.1.size b a c k a e u s z (ud HE).once
   obtain⟨ab,hk,hv⟩:=VA Z8 he z
   have h:e.val=yX ((jn qN L e).2):=hv
   unfold yX at h
   rw[h]at d o
   have a7:J ((ps.map (jn qN L)).map (fun p:Sg×SX=>p.2)) X:=ud q _ wr X (I W.1.size) M a0 (fun r e=>by cases e;exact⟨Q _,_,D,rfl⟩)
   obtain⟨y,B⟩:∃y,(jn qN L e).2=y:=⟨_,rfl⟩
   have a5:Hid ((fun p:Sg×SX=>p.2) (jn qN L e)=y):=B
   rw[B]at d o
   have T:=(Z X.1.size X).alloc (Q _) (.cells #[O E y.1.t,O E y.1.se,O E y.1.wn,O E y.2.st,O E y.2.cl.cnt,O E y.2.cl.sum,O i32 y.2.cl.mn,O i32 y.2.cl.mx] 148)
   obtain⟨fn,tmps,assign,body,hy,hR⟩:=hY ((ps.map (jn qN L)).map (fun p:Sg×SX=>p.2)) y _ (xr (ud q) a7 T) (by rw[List.length_map,List.length_map];have:=hC.lt i;omega)
   have H:=zd u
   have G:=zd s
   have HX:=zd C
   have a4:=zd D
   clear f hC he u s C z a2 S hv hk a0 h D w i j ab B T hJ N
   gi_wp2
   refine hR.mono ?_
   rintro e3 W3 (⟨rfl,a6,A⟩|⟨rfl,R,A⟩)
   ·gi_wp2
    have a3:=A.high W.1.size _ (by omega) (fun⟨_,_,e⟩=>by cases e) ((Below.heap_alloc _ _ _ (zb (ud H))).trans (ud H))
    have a8:=A.walk b _ ac ((Below.heap_alloc _ _ _ (zb (ud G))).trans (ud G)) rfl
    go_roundw
    case rel=>exact⟨_,_,ps++[e],a3,Q _,a8,(ud HC).step (ud F),by rw[List.map_append,List.map_append,List.map_singleton,List.map_singleton,ud a5];exact a6⟩
    case measure=>rw[qj a3,qj (ud a4)];exact vi (ud F)
   ·gi_wp2
    refine bodyPost_ret (results_none rfl _ _ _) rfl ?_
    exact⟨⟨_,rfl⟩,.inr ⟨_,trivial,R⟩⟩
theorem KK(b:Nat)(w:Y):
  Calls prog 88 #[.map (I b)] w fun e w'=>e=.returned (.func (.func 150) #[] #[.pointer (I ⟨w.1.size,0,U⟩)])/\w'=w.alloc (.cells #[.map (I b)] 152):=by
 go_enter func88,ntmps88
 go_wp2_with fail
 go_ret
 exact⟨rfl,rfl⟩
theorem zgs{ex:Nat->Prop}{n:Nat}(a b:Nat)(L:List (Sg×SX))(w:Y)(f:¬ex b)(d:a<w.1.size)(q:w.cell? ⟨a,0,U⟩=I (.map (I b)))(c:xj qN w b L):
  jW ex n prog 150 #[.pointer (I ⟨a,0,U⟩)] (fun x:SX=>#[.agg #[O E x.1.t,O E x.1.se,O E x.1.wn,O E x.2.st,O E x.2.cl.cnt,O E x.2.cl.sum,O i32 x.2.cl.mn,O i32 x.2.cl.mx]]) (fun xs=>∃ps:List (Sg×SX),ps.Perm L/\xs=ps.map (fun p:Sg×SX=>p.2)) L.length w:=
 fun m r l J i W h g k e o j=>zgr l a b L f J i W g k e o ((h.cell (p:=⟨a,0,U⟩) d).trans q) (c.later h) j
theorem zad:∀args w,(callFunc 150 args).run prog w=.ok (.enter 150 args) w:=enters_of func150 (by kernel_rfl) rfl
theorem zeh{ex:Nat->Prop}{n:Nat}(c b:Nat)(L:LV)(w:Y)(f:¬ex b)(d:c<w.1.size)(g:w.cell? ⟨c,0,U⟩=I (.map (I b)))(a:xj qN w b (kH L)):
  jW ex n prog 150 #[.pointer (I ⟨c,0,U⟩)] (fun x:SX=>#[.agg #[O E x.1.t,O E x.1.se,O E x.1.wn,O E x.2.st,O E x.2.cl.cnt,O E x.2.cl.sum,O i32 x.2.cl.mn,O i32 x.2.cl.mx]]) (fun xs=>xs.Perm L) L.length w:=by
 have h:=(zgs (n:=n) c b (kH L) w f d g a).imp (S':=fun xs=>xs.Perm L) (fun xs ⟨ps,h,e⟩=>by rw[e];exact QU h)
 rwa[QT]at h
attribute [local go_sem] Oper.semAt_some
theorem zgp{α:Type}(s:α->Sg)(q:Sg->α){ex:Nat->Prop}{n m:Nat}(l Bm b:Nat)(L:List (Sg×SX))(af:∀p∈L,s (q p.1)=p.1)(ae:¬ex b)(J Jx:List α->Y->Prop)(W:Y)(ah:m<=W.1.size)(hJ:OwnFrom W.1.size J)(S:OwnFrom W.1.size Jx)
  (hY:∀g x V,J g V->g.length<L.length->YieldAt Fence.wide 5 prog l #[.agg #[O E (s x).t,O E (s x).se,O E (s x).wn]] V fun e V'=>(e=.returned (.bool true)/\J (g++[x]) V'/\KX ex n m V V')\/(e=.returned (.bool false)/\Jx (g++[x]) V'/\KX ex n m V V'))
  (hm:W.cell? ⟨Bm,0,U⟩=I (.map (I b))) (a4:xj qN W b L) (h0:J [] W):
  CallsIn Fence.wide 6 prog 233 #[.func (.yield l) #[] #[],.pointer (I ⟨Bm,0,U⟩)] W fun e W'=>(∃v,e=.returned v)/\
   ((∃xs,(∃ps:List (Sg×SX),ps.Perm L/\xs=ps.map (fun p:Sg×SX=>q p.1))/\J xs W')\/(∃g,True/\Jx g W')):=by
 obtain⟨k,a,hb,he⟩:=a4
 have ac:=zb hb
 have f:=run_range_map (P:=prog) W 152 _ _ b k a underlying152 hb
 have HE:=zd he
 have u:=zd hJ
 have aj:=he.count
 refine callsIn_of_wp func233 rfl trivial ?_ rfl
 simp only[ntmps233,List.size_toArray,List.length_cons,List.length_nil,Nat.reduceAdd,Nat.reduceSub,Array.replicate_succ,Array.replicate_zero,List.push_toArray,List.append_toArray,List.nil_append,List.cons_append]
 gi_wp2
 gi_loopw [3] (fun _ wr=>∃(c:Array Nat) (N:Nat) (ps:List MapEntry),wr.1[W.1.size]?=I (.mapIter (I b) a c N)/\a<=N/\wr.1[b]?=I (.map k a)/\zdF k c ps/\J ((ps.map (jn qN L)).map (fun p:Sg×SX=>q p.1)) wr)
  (fun _ wr=>QK k W.1.size wr)
 case atStart=>
  exact⟨#[],a,[],zr _ _,Q _,(Below.heap_alloc _ _ _ ac).trans hb,⟨by simp,by simp,by simp⟩,xr (ud u) h0 ((Z _ _).alloc (Q _) _)⟩
 case round=>
  obtain⟨c,N,ps,G,ad,A,hC,R⟩:=hrel
  have ai:=zb G
  have HC:=zd hC
  rcases run_next_at (P:=prog) wr 0 W.1.size b a N c k a G A (ud HE).born ad with⟨hz,d⟩|⟨e,i,w1,j,d⟩
  ·have HZ:=zd hz
   clear f hz hC he hJ S
   gi_wp2
   go_end0
   exact⟨⟨_,rfl⟩,.inl ⟨_,⟨_,XX Z8 (ud HE) ((ud HC).all (ud HE).once (ud HZ)),rfl⟩,R⟩⟩
  ·have H:=zd i
   obtain⟨B,_⟩:=xM.1 i
   have a5:w1.1[W.1.size]?=I (.mapIter (I b) a c N):=by rcases j with rfl|rfl<;>exact G
   have a0:w1.1[b]?=I (.map k a):=by rcases j with rfl|rfl<;>exact A
   have ag:b≠W.1.size:=by omega
   obtain⟨X,F⟩:∃X,setBlock w1 W.1.size (.mapIter (I b) a (c.push e.born) a)=X:=⟨_,rfl⟩
   have z:X.1[W.1.size]?=I (.mapIter (I b) a (c.push e.born) a):=by rw[<-F];exact qO (zb a5) _
   have w:X.1[b]?=I (.map k a):=by rw[<-F,qr ag];exact a0
   have a3:wr.grownBy X (I W.1.size):=by
    rw[<-F];rcases j with rfl|rfl
    ·exact qq _ _ _
    ·have:=qq wr.drew W.1.size (.mapIter (I b) a (c.push e.born) a)
     exact⟨this.os,this.tape,this.output,this.size,this.block⟩
   rw[F]at d
   have o:=run_entry_at (P:=prog) X W.1.size b a c k a e z w B (ud HE).once
   obtain⟨a2,hk,hv⟩:=VA Z8 he B
   have h:e.key=yO (s (q (jn qN L e).1)):=by rw[af _ a2];exact hk
   unfold yO at h
   rw[h]at d o
   have aa:J ((ps.map (jn qN L)).map (fun p:Sg×SX=>q p.1)) X:=ud u _ wr X (I W.1.size) R a3 (fun r e=>by cases e;exact⟨Q _,_,G,rfl⟩)
   obtain⟨y,D⟩:∃y,q (jn qN L e).1=y:=⟨_,rfl⟩
   have a8:Hid ((fun p:Sg×SX=>q p.1) (jn qN L e)=y):=D
   rw[D]at d o
   have a1:=(Z X.1.size X).alloc (Q _) (.cells #[O E (s y).t,O E (s y).se,O E (s y).wn] 146)
   obtain⟨fn,tmps,assign,body,hy,hR⟩:=hY ((ps.map (jn qN L)).map (fun p:Sg×SX=>q p.1)) y _ (xr (ud u) aa a1) (by rw[List.length_map,List.length_map];have:=hC.lt i;omega)
   have M:=zd z
   have K:=zd w
   have HX:=zd F
   have a7:=zd G
   clear f hC he z w F B a5 a0 hv hk a3 h G A i j a2 D a1 hJ S
   gi_wp2
   refine hR.mono ?_
   rintro e3 W3 (⟨rfl,a9,C⟩|⟨rfl,T,C⟩)
   ·gi_wp2
    have a6:=C.high W.1.size _ (by omega) (fun⟨_,_,e⟩=>by cases e) ((Below.heap_alloc _ _ _ (zb (ud M))).trans (ud M))
    have ab:=C.walk b _ ae ((Below.heap_alloc _ _ _ (zb (ud K))).trans (ud K)) rfl
    go_roundw
    case rel=>exact⟨_,_,ps++[e],a6,Q _,ab,(ud HC).step (ud H),by rw[List.map_append,List.map_append,List.map_singleton,List.map_singleton,ud a8];exact a9⟩
    case measure=>rw[qj a6,qj (ud a7)];exact vi (ud H)
   ·gi_wp2
    refine bodyPost_ret (results_none rfl _ _ _) rfl ?_
    exact⟨⟨_,rfl⟩,.inr ⟨_,trivial,T⟩⟩
theorem KJ(b:Nat)(w:Y):
  Calls prog 173 #[.map (I b)] w fun e w'=>e=.returned (.func (.func 233) #[] #[.pointer (I ⟨w.1.size,0,U⟩)])/\w'=w.alloc (.cells #[.map (I b)] 152):=by
 go_enter func173,ntmps173
 go_wp2_with fail
 go_ret
 exact⟨rfl,rfl⟩
theorem zgq{α:Type}(d:α->Sg)(j:Sg->α){ex:Nat->Prop}{n:Nat}(a b:Nat)(L:List (Sg×SX))(i:∀p∈L,d (j p.1)=p.1)(w:Y)(g:¬ex b)(e:a<w.1.size)(u:w.cell? ⟨a,0,U⟩=I (.map (I b)))(c:xj qN w b L):
  jW ex n prog 233 #[.pointer (I ⟨a,0,U⟩)] (fun x:α=>#[.agg #[O E (d x).t,O E (d x).se,O E (d x).wn]]) (fun xs=>∃ps:List (Sg×SX),ps.Perm L/\xs=ps.map (fun p:Sg×SX=>j p.1)) L.length w:=
 fun m v l J o W k h r f s q=>zgp d j l a b L i g J o W h r f s ((k.cell (p:=⟨a,0,U⟩) e).trans u) (c.later k) q
theorem zac:∀args w,(callFunc 233 args).run prog w=.ok (.enter 233 args) w:=enters_of func233 (by kernel_rfl) rfl
theorem zah{α:Type}(d:α->Sg)(a:Sg->α){ex:Nat->Prop}{n:Nat}(f b:Nat)(L:LV)(j:∀p∈L,d (a p.1)=p.1)(w:Y)(i:¬ex b)(g:f<w.1.size)(o:w.cell? ⟨f,0,U⟩=I (.map (I b)))(c:xj qN w b (kH L)):
  jW ex n prog 233 #[.pointer (I ⟨f,0,U⟩)] (fun x:α=>#[.agg #[O E (d x).t,O E (d x).se,O E (d x).wn]]) (fun xs=>∃ps:List (Sg×SV),ps.Perm L/\xs=ps.map (fun p:Sg×SV=>a p.1)) L.length w:=by
 have h:=(zgq d a (n:=n) f b (kH L) (fun q k=>by obtain⟨l,m⟩:=VW k;rw[m];exact j _ l) w i g o c).imp (S':=fun xs=>∃ps:List (Sg×SV),ps.Perm L/\xs=ps.map (fun p:Sg×SV=>a p.1)) (fun xs ⟨ps,h,e⟩=>⟨_,QU h,by
  rw[e,List.map_map]
  refine List.map_congr_left (fun q k=>?_)
  show a q.1=a q.2.1
  rw[(VW (h.mem_iff.1 k)).2]⟩)
 rwa[QT]at h
attribute [local go_sem] Oper.semAt_some
theorem Q6{W b:Y}{row:Option Nat}{base:Nat}{e:TypeId}{size:Nat}{v:Value}{k:Nat}{xs:List Value}(h:W.ownsRow base e size v k xs)(i:W.grownBy b row)(j:∀r,row=I r->∃o:Obj,W.1[r]?=I o/\o.isCells=false):b.ownsRow base e size v k xs:=by
 refine h.kept i ?_
 rcases h.2 with⟨rfl,_⟩|⟨g,cap,d,rfl,_,a,_⟩
 ·exact .inl rfl
 ·refine .inr fun f=>?_
  obtain⟨o,c,l⟩:=j g (by simpa[Value.ownBlock]using f.symm)
  rw[a]at c;cases c;cases l
attribute [local go_sem] Oper.semAt_some
theorem zei(l Bm b:Nat)(L:List (Sg×SX))(J Jx:List SX->Y->Prop)(W:Y)(hJ:OwnFrom W.1.size J)(K:OwnFrom W.1.size Jx)
  (hY:∀g x V,J g V->g.length<L.length->YieldAt Fence.wide 5 prog l #[.agg #[O E x.1.t,O E x.1.se,O E x.1.wn,O E x.2.st,O E x.2.cl.cnt,O E x.2.cl.sum,O i32 x.2.cl.mn,O i32 x.2.cl.mx]] V fun e V'=>(e=.returned (.bool true)/\J (g++[x]) V'/\KeepsWalks V V')\/(e=.returned (.bool false)/\Jx (g++[x]) V'/\KeepsWalks V V'))
  (hm:W.cell? ⟨Bm,0,U⟩=I (.map (I b))) (a0:xj qN W b L) (h0:J [] W):
  CallsIn Fence.wide 6 prog 150 #[.func (.yield l) #[] #[],.pointer (I ⟨Bm,0,U⟩)] W fun e W'=>(∃v,e=.returned v)/\
   ((∃xs,(∃ps:List (Sg×SX),ps.Perm L/\xs=ps.map (fun p:Sg×SX=>p.2))/\J xs W')\/(∃g,True/\Jx g W')):=by
 obtain⟨k,a,hb,S⟩:=a0
 have a8:=zb hb
 have f:=run_range_map (P:=prog) W 152 _ _ b k a underlying152 hb
 have HE:=zd S
 have n:=zd hJ
 have ad:=S.count
 refine callsIn_of_wp func150 rfl trivial ?_ rfl
 simp only[ntmps150,List.size_toArray,List.length_cons,List.length_nil,Nat.reduceAdd,Nat.reduceSub,Array.replicate_succ,Array.replicate_zero,List.push_toArray,List.append_toArray,List.nil_append,List.cons_append]
 gi_wp2
 gi_loopw [4] (fun _ wr=>∃(c:Array Nat) (G:Nat) (ps:List MapEntry),wr.1[W.1.size]?=I (.mapIter (I b) a c G)/\a<=G/\wr.1[b]?=I (.map k a)/\zdF k c ps/\J ((ps.map (jn qN L)).map (fun p:Sg×SX=>p.2)) wr)
  (fun _ wr=>QK k W.1.size wr)
 case atStart=>
  exact⟨#[],a,[],zr _ _,Q _,(Below.heap_alloc _ _ _ a8).trans hb,⟨by simp,by simp,by simp⟩,xr (ud n) h0 ((Z _ _).alloc (Q _) _)⟩
 case round=>
  obtain⟨c,G,ps,B,a9,s,hC,H⟩:=hrel
  have ac:=zb B
  have HC:=zd hC
  rcases run_next_at (P:=prog) wr 0 W.1.size b a G c k a B s (ud HE).born a9 with⟨hz,d⟩|⟨e,i,w1,j,d⟩
  ·have HZ:=zd hz
   clear f hz hC S hJ K
   gi_wp2
   go_end0
   exact⟨⟨_,rfl⟩,.inl ⟨_,⟨_,XX Z8 (ud HE) ((ud HC).all (ud HE).once (ud HZ)),rfl⟩,H⟩⟩
  ·have C:=zd i
   obtain⟨u,_⟩:=xM.1 i
   have a1:w1.1[W.1.size]?=I (.mapIter (I b) a c G):=by rcases j with rfl|rfl<;>exact B
   have N:w1.1[b]?=I (.map k a):=by rcases j with rfl|rfl<;>exact s
   have ab:b≠W.1.size:=by omega
   obtain⟨X,A⟩:∃X,setBlock w1 W.1.size (.mapIter (I b) a (c.push e.born) a)=X:=⟨_,rfl⟩
   have q:X.1[W.1.size]?=I (.mapIter (I b) a (c.push e.born) a):=by rw[<-A];exact qO (zb a1) _
   have o:X.1[b]?=I (.map k a):=by rw[<-A,qr ab];exact N
   have T:wr.grownBy X (I W.1.size):=by
    rw[<-A];rcases j with rfl|rfl
    ·exact qq _ _ _
    ·have:=qq wr.drew W.1.size (.mapIter (I b) a (c.push e.born) a)
     exact⟨this.os,this.tape,this.output,this.size,this.block⟩
   rw[A]at d
   have m:=run_entry_at (P:=prog) X W.1.size b a c k a e q o u (ud HE).once
   obtain⟨aa,hk,hv⟩:=VA Z8 S u
   have h:e.val=yX ((jn qN L e).2):=hv
   unfold yX at h
   rw[h]at d m
   have a6:J ((ps.map (jn qN L)).map (fun p:Sg×SX=>p.2)) X:=ud n _ wr X (I W.1.size) H T (fun r e=>by cases e;exact⟨Q _,_,B,rfl⟩)
   obtain⟨y,z⟩:∃y,(jn qN L e).2=y:=⟨_,rfl⟩
   have a4:Hid ((fun p:Sg×SX=>p.2) (jn qN L e)=y):=z
   rw[z]at d m
   have R:=(Z X.1.size X).alloc (Q _) (.cells #[O E y.1.t,O E y.1.se,O E y.1.wn,O E y.2.st,O E y.2.cl.cnt,O E y.2.cl.sum,O i32 y.2.cl.mn,O i32 y.2.cl.mx] 148)
   obtain⟨fn,tmps,assign,body,hy,hR⟩:=hY ((ps.map (jn qN L)).map (fun p:Sg×SX=>p.2)) y _ (xr (ud n) a6 R) (by rw[List.length_map,List.length_map];have:=hC.lt i;omega)
   have F:=zd q
   have D:=zd o
   have HX:=zd A
   have a3:=zd B
   clear f hC S q o A u a1 N hv hk T h B s i j aa z R hJ K
   gi_wp2
   refine hR.mono ?_
   rintro e3 W3 (⟨rfl,a5,w⟩|⟨rfl,M,w⟩)
   ·gi_wp2
    have a2:=w.same W.1.size _ ((Below.heap_alloc _ _ _ (zb (ud F))).trans (ud F)) rfl
    have a7:=w.same b _ ((Below.heap_alloc _ _ _ (zb (ud D))).trans (ud D)) rfl
    go_roundw
    case rel=>exact⟨_,_,ps++[e],a2,Q _,a7,(ud HC).step (ud C),by rw[List.map_append,List.map_append,List.map_singleton,List.map_singleton,ud a4];exact a5⟩
    case measure=>rw[qj a2,qj (ud a3)];exact vi (ud C)
   ·gi_wp2
    refine bodyPost_ret (results_none rfl _ _ _) rfl ?_
    exact⟨⟨_,rfl⟩,.inr ⟨_,trivial,M⟩⟩
theorem zgu(a b:Nat)(L:LV)(w:Y)(d:a<w.1.size)(r:w.cell? ⟨a,0,U⟩=I (.map (I b)))(c:xj qN w b (kH L)):
  Yl Fence.wide 6 prog 150 #[.pointer (I ⟨a,0,U⟩)] (fun x:SX=>#[.agg #[O E x.1.t,O E x.1.se,O E x.1.wn,O E x.2.st,O E x.2.cl.cnt,O E x.2.cl.sum,O i32 x.2.cl.mn,O i32 x.2.cl.mx]]) KeepsWalks (fun xs=>xs.Perm L) (fun _=>True) L.length 0 w:=
 fun l J j W i _ o f q k=>(zei l a b (kH L) J j W o f (by rw[QT];exact q) ((i.cell (p:=⟨a,0,U⟩) d).trans r) (c.later i) k).mono (by
  rintro e s ⟨g,⟨xs,⟨ps,m,rfl⟩,n⟩|h⟩
  ·exact⟨g,.inl ⟨_,QU m,n⟩⟩
  ·exact⟨g,.inr h⟩)
end Go.Proofs.YtndhpgciopcncaaGreatDoor
