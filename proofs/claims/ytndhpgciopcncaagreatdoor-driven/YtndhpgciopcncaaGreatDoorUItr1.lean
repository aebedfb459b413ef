import Derived.Test.YtndhpgciopcncaaGreatDoorUWhr0
import Derived.Maps.OwnIn
import Derived.OwnWalkIn
open Option renaming some → I
open Go.Value renaming int → O
open Go.IntKind renaming i64 → E
open Nat renaming le_refl → U
open Option renaming none → Y
open Go renaming World → Z
open Go.RowKit.Below renaming refl → G
open Go.IntKind (i32)
set_option linter.unusedVariables false
set_option maxRecDepth 100000
set_option maxHeartbeats 2000000
open Go.Proofs.Tryz
namespace Go.Proofs.YtndhpgciopcncaaGreatDoor
open Go.ChangeMaps (setBlock)
open Go.RowKit Go.Maps Go.Shelf
attribute [local go_sem] Oper.semAt_some
theorem zeY{ex:Nat->Prop}{n m:Nat}(l Bm b:Nat)(L:List (Sg×SX))(ac:¬ex b)(J Jx:List SX->Z->Prop)(W:Z)(ae:m<=W.1.size)(hJ:OwnFrom W.1.size J)(Q:OwnFrom W.1.size Jx)
  (hY:∀g x V,J g V->g.length<L.length->YieldAt Fence.wide 5 prog l #[.agg #[O E x.1.t,O E x.1.sr,O E x.1.wa,O E x.2.st,O E x.2.cl.cnt,O E x.2.cl.sum,O i32 x.2.cl.mn,O i32 x.2.cl.mx]] V fun e V'=>(e=.returned (.bool true)/\J (g++[x]) V'/\KX ex n m V V')\/(e=.returned (.bool false)/\Jx (g++[x]) V'/\KX ex n m V V'))
  (hm:W.cell? ⟨Bm,0,Y⟩=I (.map (I b))) (a1:zV qN W b L) (h0:J [] W):
  CallsIn Fence.wide 6 prog 150 #[.func (.yield l) #[] #[],.pointer (I ⟨Bm,0,Y⟩)] W fun e W'=>(∃v,e=.returned v)/\
   ((∃xs,(∃ps:List (Sg×SX),ps.Perm L/\xs=ps.map (fun p:Sg×SX=>p.2))/\J xs W')\/(∃g,True/\Jx g W')):=by
 obtain⟨k,a,hb,he⟩:=a1
 have a9:=za hb
 have f:=run_range_map (P:=prog) W 152 _ _ b k a underlying152 hb
 have HE:=zd he
 have q:=zd hJ
 have ag:=he.count
 refine callsIn_of_wp func150 rfl trivial ?_ rfl
 simp only[ntmps150,List.size_toArray,List.length_cons,List.length_nil,Nat.reduceAdd,Nat.reduceSub,Array.replicate_succ,Array.replicate_zero,List.push_toArray,List.append_toArray,List.nil_append,List.cons_append]
 gi_wp2
 gi_loopw [4] (fun _ wr=>∃(c:Array Nat) (M:Nat) (ps:List MapEntry),wr.1[W.1.size]?=I (.mapIter (I b) a c M)/\a<=M/\wr.1[b]?=I (.map k a)/\Js k c ps/\J ((ps.map (yo qN L)).map (fun p:Sg×SX=>p.2)) wr)
  (fun _ wr=>vP k W.1.size wr)
 case atStart=>
  exact⟨#[],a,[],zm _ _,U _,(Below.heap_alloc _ _ _ a9).trans hb,⟨by simp,by simp,by simp⟩,zK (ud q) h0 ((G _ _).alloc (U _) _)⟩
 case round=>
  obtain⟨c,M,ps,D,aa,w,hC,N⟩:=hrel
  have af:=za D
  have HC:=zd hC
  rcases run_next_at (P:=prog) wr 0 W.1.size b a M c k a D w (ud HE).born aa with⟨hz,d⟩|⟨e,i,w1,j,d⟩
  ·have HZ:=zd hz
   clear f hz hC he hJ Q
   gi_wp2
   go_end0
   exact⟨⟨_,rfl⟩,.inl ⟨_,⟨_,vg jM (ud HE) ((ud HC).all (ud HE).once (ud HZ)),rfl⟩,N⟩⟩
  ·have F:=zd i
   obtain⟨z,_⟩:=xq.1 i
   have a2:w1.1[W.1.size]?=I (.mapIter (I b) a c M):=by rcases j with rfl|rfl<;>exact D
   have S:w1.1[b]?=I (.map k a):=by rcases j with rfl|rfl<;>exact w
   have ad:b≠W.1.size:=by omega
   obtain⟨X,C⟩:∃X,setBlock w1 W.1.size (.mapIter (I b) a (c.push e.born) a)=X:=⟨_,rfl⟩
   have u:X.1[W.1.size]?=I (.mapIter (I b) a (c.push e.born) a):=by rw[<-C];exact xE (za a2) _
   have s:X.1[b]?=I (.map k a):=by rw[<-C,xn ad];exact S
   have a0:wr.grownBy X (I W.1.size):=by
    rw[<-C];rcases j with rfl|rfl
    ·exact xb _ _ _
    ·have:=xb wr.drew W.1.size (.mapIter (I b) a (c.push e.born) a)
     exact⟨this.os,this.tape,this.output,this.size,this.block⟩
   rw[C]at d
   have o:=run_entry_at (P:=prog) X W.1.size b a c k a e u s z (ud HE).once
   obtain⟨ab,hk,hv⟩:=Z1 jM he z
   have h:e.val=yP ((yo qN L e).2):=hv
   unfold yP at h
   rw[h]at d o
   have a7:J ((ps.map (yo qN L)).map (fun p:Sg×SX=>p.2)) X:=ud q _ wr X (I W.1.size) N a0 (fun r e=>by cases e;exact⟨U _,_,D,rfl⟩)
   obtain⟨y,B⟩:∃y,(yo qN L e).2=y:=⟨_,rfl⟩
   have a5:Hid ((fun p:Sg×SX=>p.2) (yo qN L e)=y):=B
   rw[B]at d o
   have T:=(G X.1.size X).alloc (U _) (.cells #[O E y.1.t,O E y.1.sr,O E y.1.wa,O E y.2.st,O E y.2.cl.cnt,O E y.2.cl.sum,O i32 y.2.cl.mn,O i32 y.2.cl.mx] 148)
   obtain⟨fn,tmps,assign,body,hy,hR⟩:=hY ((ps.map (yo qN L)).map (fun p:Sg×SX=>p.2)) y _ (zK (ud q) a7 T) (by rw[List.length_map,List.length_map];have:=hC.lt i;omega)
   have K:=zd u
   have H:=zd s
   have HX:=zd C
   have a4:=zd D
   clear f hC he u s C z a2 S hv hk a0 h D w i j ab B T hJ Q
   gi_wp2
   refine hR.mono ?_
   rintro e3 W3 (⟨rfl,a6,A⟩|⟨rfl,R,A⟩)
   ·gi_wp2
    have a3:=A.high W.1.size _ (by omega) (fun⟨_,_,e⟩=>by cases e) ((Below.heap_alloc _ _ _ (za (ud K))).trans (ud K))
    have a8:=A.walk b _ ac ((Below.heap_alloc _ _ _ (za (ud H))).trans (ud H)) rfl
    go_roundw
    case rel=>exact⟨_,_,ps++[e],a3,U _,a8,(ud HC).step (ud F),by rw[List.map_append,List.map_append,List.map_singleton,List.map_singleton,ud a5];exact a6⟩
    case measure=>rw[xg a3,xg (ud a4)];exact qC (ud F)
   ·gi_wp2
    refine bodyPost_ret (results_none rfl _ _ _) rfl ?_
    exact⟨⟨_,rfl⟩,.inr ⟨_,trivial,R⟩⟩
theorem Yj(b:Nat)(w:Z):
  Calls prog 88 #[.map (I b)] w fun e w'=>e=.returned (.func (.func 150) #[] #[.pointer (I ⟨w.1.size,0,Y⟩)])/\w'=w.alloc (.cells #[.map (I b)] 152):=by
 go_enter func88,ntmps88
 go_wp2_with fail
 go_ret
 exact⟨rfl,rfl⟩
theorem zeZ{ex:Nat->Prop}{n:Nat}(Bm b:Nat)(L:List (Sg×SX))(w:Z)(e:¬ex b)(c:Bm<w.1.size)(o:w.cell? ⟨Bm,0,Y⟩=I (.map (I b)))(a:zV qN w b L):
  kN ex n prog 150 #[.pointer (I ⟨Bm,0,Y⟩)] (fun x:SX=>#[.agg #[O E x.1.t,O E x.1.sr,O E x.1.wa,O E x.2.st,O E x.2.cl.cnt,O E x.2.cl.sum,O i32 x.2.cl.mn,O i32 x.2.cl.mx]]) (fun xs=>∃ps:List (Sg×SX),ps.Perm L/\xs=ps.map (fun p:Sg×SX=>p.2)) L.length w:=
 fun m q l J h W g f j d k i=>zeY l Bm b L e J h W f j d k ((g.cell (p:=⟨Bm,0,Y⟩) c).trans o) (a.later g) i
theorem VS:∀args w,(callFunc 150 args).run prog w=.ok (.enter 150 args) w:=enters_of func150 (by kernel_rfl) rfl
theorem zcD{ex:Nat->Prop}{n:Nat}(Bm b:Nat)(L:LV)(w:Z)(d:¬ex b)(c:Bm<w.1.size)(f:w.cell? ⟨Bm,0,Y⟩=I (.map (I b)))(a:zV qN w b (kt L)):
  kN ex n prog 150 #[.pointer (I ⟨Bm,0,Y⟩)] (fun x:SX=>#[.agg #[O E x.1.t,O E x.1.sr,O E x.1.wa,O E x.2.st,O E x.2.cl.cnt,O E x.2.cl.sum,O i32 x.2.cl.mn,O i32 x.2.cl.mx]]) (fun xs=>xs.Perm L) L.length w:=by
 have h:=(zeZ (n:=n) Bm b (kt L) w d c f a).imp (S':=fun xs=>xs.Perm L) (fun xs ⟨ps,h,e⟩=>by rw[e];exact XU h)
 rwa[XT]at h
attribute [local go_sem] Oper.semAt_some
theorem zeW{α:Type}(s:α->Sg)(q:Sg->α){ex:Nat->Prop}{n m:Nat}(l Bm b:Nat)(L:List (Sg×SX))(af:∀p∈L,s (q p.1)=p.1)(ae:¬ex b)(J Jx:List α->Z->Prop)(W:Z)(ah:m<=W.1.size)(hJ:OwnFrom W.1.size J)(S:OwnFrom W.1.size Jx)
  (hY:∀g x V,J g V->g.length<L.length->YieldAt Fence.wide 5 prog l #[.agg #[O E (s x).t,O E (s x).sr,O E (s x).wa]] V fun e V'=>(e=.returned (.bool true)/\J (g++[x]) V'/\KX ex n m V V')\/(e=.returned (.bool false)/\Jx (g++[x]) V'/\KX ex n m V V'))
  (hm:W.cell? ⟨Bm,0,Y⟩=I (.map (I b))) (a4:zV qN W b L) (h0:J [] W):
  CallsIn Fence.wide 6 prog 233 #[.func (.yield l) #[] #[],.pointer (I ⟨Bm,0,Y⟩)] W fun e W'=>(∃v,e=.returned v)/\
   ((∃xs,(∃ps:List (Sg×SX),ps.Perm L/\xs=ps.map (fun p:Sg×SX=>q p.1))/\J xs W')\/(∃g,True/\Jx g W')):=by
 obtain⟨k,a,hb,he⟩:=a4
 have ac:=za hb
 have f:=run_range_map (P:=prog) W 152 _ _ b k a underlying152 hb
 have HE:=zd he
 have u:=zd hJ
 have aj:=he.count
 refine callsIn_of_wp func233 rfl trivial ?_ rfl
 simp only[ntmps233,List.size_toArray,List.length_cons,List.length_nil,Nat.reduceAdd,Nat.reduceSub,Array.replicate_succ,Array.replicate_zero,List.push_toArray,List.append_toArray,List.nil_append,List.cons_append]
 gi_wp2
 gi_loopw [3] (fun _ wr=>∃(c:Array Nat) (Q:Nat) (ps:List MapEntry),wr.1[W.1.size]?=I (.mapIter (I b) a c Q)/\a<=Q/\wr.1[b]?=I (.map k a)/\Js k c ps/\J ((ps.map (yo qN L)).map (fun p:Sg×SX=>q p.1)) wr)
  (fun _ wr=>vP k W.1.size wr)
 case atStart=>
  exact⟨#[],a,[],zm _ _,U _,(Below.heap_alloc _ _ _ ac).trans hb,⟨by simp,by simp,by simp⟩,zK (ud u) h0 ((G _ _).alloc (U _) _)⟩
 case round=>
  obtain⟨c,Q,ps,H,ad,A,hC,R⟩:=hrel
  have ai:=za H
  have HC:=zd hC
  rcases run_next_at (P:=prog) wr 0 W.1.size b a Q c k a H A (ud HE).born ad with⟨hz,d⟩|⟨e,i,w1,j,d⟩
  ·have HZ:=zd hz
   clear f hz hC he hJ S
   gi_wp2
   go_end0
   exact⟨⟨_,rfl⟩,.inl ⟨_,⟨_,vg jM (ud HE) ((ud HC).all (ud HE).once (ud HZ)),rfl⟩,R⟩⟩
  ·have K:=zd i
   obtain⟨B,_⟩:=xq.1 i
   have a5:w1.1[W.1.size]?=I (.mapIter (I b) a c Q):=by rcases j with rfl|rfl<;>exact H
   have a0:w1.1[b]?=I (.map k a):=by rcases j with rfl|rfl<;>exact A
   have ag:b≠W.1.size:=by omega
   obtain⟨X,F⟩:∃X,setBlock w1 W.1.size (.mapIter (I b) a (c.push e.born) a)=X:=⟨_,rfl⟩
   have z:X.1[W.1.size]?=I (.mapIter (I b) a (c.push e.born) a):=by rw[<-F];exact xE (za a5) _
   have w:X.1[b]?=I (.map k a):=by rw[<-F,xn ag];exact a0
   have a3:wr.grownBy X (I W.1.size):=by
    rw[<-F];rcases j with rfl|rfl
    ·exact xb _ _ _
    ·have:=xb wr.drew W.1.size (.mapIter (I b) a (c.push e.born) a)
     exact⟨this.os,this.tape,this.output,this.size,this.block⟩
   rw[F]at d
   have o:=run_entry_at (P:=prog) X W.1.size b a c k a e z w B (ud HE).once
   obtain⟨a2,hk,hv⟩:=Z1 jM he B
   have h:e.key=yD (s (q (yo qN L e).1)):=by rw[af _ a2];exact hk
   unfold yD at h
   rw[h]at d o
   have aa:J ((ps.map (yo qN L)).map (fun p:Sg×SX=>q p.1)) X:=ud u _ wr X (I W.1.size) R a3 (fun r e=>by cases e;exact⟨U _,_,H,rfl⟩)
   obtain⟨y,D⟩:∃y,q (yo qN L e).1=y:=⟨_,rfl⟩
   have a8:Hid ((fun p:Sg×SX=>q p.1) (yo qN L e)=y):=D
   rw[D]at d o
   have a1:=(G X.1.size X).alloc (U _) (.cells #[O E (s y).t,O E (s y).sr,O E (s y).wa] 146)
   obtain⟨fn,tmps,assign,body,hy,hR⟩:=hY ((ps.map (yo qN L)).map (fun p:Sg×SX=>q p.1)) y _ (zK (ud u) aa a1) (by rw[List.length_map,List.length_map];have:=hC.lt i;omega)
   have N:=zd z
   have M:=zd w
   have HX:=zd F
   have a7:=zd H
   clear f hC he z w F B a5 a0 hv hk a3 h H A i j a2 D a1 hJ S
   gi_wp2
   refine hR.mono ?_
   rintro e3 W3 (⟨rfl,a9,C⟩|⟨rfl,T,C⟩)
   ·gi_wp2
    have a6:=C.high W.1.size _ (by omega) (fun⟨_,_,e⟩=>by cases e) ((Below.heap_alloc _ _ _ (za (ud N))).trans (ud N))
    have ab:=C.walk b _ ae ((Below.heap_alloc _ _ _ (za (ud M))).trans (ud M)) rfl
    go_roundw
    case rel=>exact⟨_,_,ps++[e],a6,U _,ab,(ud HC).step (ud K),by rw[List.map_append,List.map_append,List.map_singleton,List.map_singleton,ud a8];exact a9⟩
    case measure=>rw[xg a6,xg (ud a7)];exact qC (ud K)
   ·gi_wp2
    refine bodyPost_ret (results_none rfl _ _ _) rfl ?_
    exact⟨⟨_,rfl⟩,.inr ⟨_,trivial,T⟩⟩
theorem Yi(b:Nat)(w:Z):
  Calls prog 173 #[.map (I b)] w fun e w'=>e=.returned (.func (.func 233) #[] #[.pointer (I ⟨w.1.size,0,Y⟩)])/\w'=w.alloc (.cells #[.map (I b)] 152):=by
 go_enter func173,ntmps173
 go_wp2_with fail
 go_ret
 exact⟨rfl,rfl⟩
theorem zeX{α:Type}(c:α->Sg)(i:Sg->α){ex:Nat->Prop}{n:Nat}(Bm b:Nat)(L:List (Sg×SX))(h:∀p∈L,c (i p.1)=p.1)(w:Z)(f:¬ex b)(d:Bm<w.1.size)(s:w.cell? ⟨Bm,0,Y⟩=I (.map (I b)))(a:zV qN w b L):
  kN ex n prog 233 #[.pointer (I ⟨Bm,0,Y⟩)] (fun x:α=>#[.agg #[O E (c x).t,O E (c x).sr,O E (c x).wa]]) (fun xs=>∃ps:List (Sg×SX),ps.Perm L/\xs=ps.map (fun p:Sg×SX=>i p.1)) L.length w:=
 fun m u l J k W j g q e r o=>zeW c i l Bm b L h f J k W g q e r ((j.cell (p:=⟨Bm,0,Y⟩) d).trans s) (a.later j) o
theorem VR:∀args w,(callFunc 233 args).run prog w=.ok (.enter 233 args) w:=enters_of func233 (by kernel_rfl) rfl
theorem VV{α:Type}(d:α->Sg)(a:Sg->α){ex:Nat->Prop}{n:Nat}(Bm b:Nat)(L:LV)(i:∀p∈L,d (a p.1)=p.1)(w:Z)(g:¬ex b)(f:Bm<w.1.size)(m:w.cell? ⟨Bm,0,Y⟩=I (.map (I b)))(c:zV qN w b (kt L)):
  kN ex n prog 233 #[.pointer (I ⟨Bm,0,Y⟩)] (fun x:α=>#[.agg #[O E (d x).t,O E (d x).sr,O E (d x).wa]]) (fun xs=>∃ps:List (Sg×SV),ps.Perm L/\xs=ps.map (fun p:Sg×SV=>a p.1)) L.length w:=by
 have h:=(zeX d a (n:=n) Bm b (kt L) (fun q j=>by obtain⟨k,l⟩:=KL j;rw[l];exact i _ k) w g f m c).imp (S':=fun xs=>∃ps:List (Sg×SV),ps.Perm L/\xs=ps.map (fun p:Sg×SV=>a p.1)) (fun xs ⟨ps,h,e⟩=>⟨_,XU h,by
  rw[e,List.map_map]
  refine List.map_congr_left (fun q j=>?_)
  show a q.1=a q.2.1
  rw[(KL (h.mem_iff.1 j)).2]⟩)
 rwa[XT]at h
attribute [local go_sem] Oper.semAt_some
theorem zhh{ex:Nat->Prop}{n m:Nat}(l Bm b:Nat)(L:List (Tok×Lse))(ad:¬ex b)(J Jx:List Lse->Z->Prop)(W:Z)(af:m<=W.1.size)(hJ:OwnFrom W.1.size J)(R:OwnFrom W.1.size Jx)
  (hY:∀g x V,J g V->g.length<L.length->YieldAt Fence.wide 5 prog l #[.agg #[O E x.kd,O E x.s.t,O E x.s.sr,O E x.s.wa,O E x.slot,O E x.til]] V fun e V'=>(e=.returned (.bool true)/\J (g++[x]) V'/\KX ex n m V V')\/(e=.returned (.bool false)/\Jx (g++[x]) V'/\KX ex n m V V'))
  (hm:W.cell? ⟨Bm,0,Y⟩=I (.map (I b))) (a2:zV xx W b L) (h0:J [] W):
  CallsIn Fence.wide 6 prog 156 #[.func (.yield l) #[] #[],.pointer (I ⟨Bm,0,Y⟩)] W fun e W'=>(∃v,e=.returned v)/\
   ((∃xs,(∃ps:List (Tok×Lse),ps.Perm L/\xs=ps.map (fun p:Tok×Lse=>p.2))/\J xs W')\/(∃g,True/\Jx g W')):=by
 obtain⟨k,a,hb,he⟩:=a2
 have aa:=za hb
 have f:=run_range_map (P:=prog) W 168 _ _ b k a underlying168 hb
 have HE:=zd he
 have q:=zd hJ
 have ah:=he.count
 refine callsIn_of_wp func156 rfl trivial ?_ rfl
 simp only[ntmps156,List.size_toArray,List.length_cons,List.length_nil,Nat.reduceAdd,Nat.reduceSub,Array.replicate_succ,Array.replicate_zero,List.push_toArray,List.append_toArray,List.nil_append,List.cons_append]
 gi_wp2
 gi_loopw [4] (fun _ wr=>∃(c:Array Nat) (N:Nat) (ps:List MapEntry),wr.1[W.1.size]?=I (.mapIter (I b) a c N)/\a<=N/\wr.1[b]?=I (.map k a)/\Js k c ps/\J ((ps.map (yo xx L)).map (fun p:Tok×Lse=>p.2)) wr)
  (fun _ wr=>vP k W.1.size wr)
 case atStart=>
  exact⟨#[],a,[],zm _ _,U _,(Below.heap_alloc _ _ _ aa).trans hb,⟨by simp,by simp,by simp⟩,zK (ud q) h0 ((G _ _).alloc (U _) _)⟩
 case round=>
  obtain⟨c,N,ps,F,ab,z,hC,Q⟩:=hrel
  have ag:=za F
  have HC:=zd hC
  rcases run_next_at (P:=prog) wr 0 W.1.size b a N c k a F z (ud HE).born ab with⟨hz,d⟩|⟨e,i,w1,j,d⟩
  ·have HZ:=zd hz
   clear f hz hC he hJ R
   gi_wp2
   go_end0
   exact⟨⟨_,rfl⟩,.inl ⟨_,⟨_,vg qX (ud HE) ((ud HC).all (ud HE).once (ud HZ)),rfl⟩,Q⟩⟩
  ·have H:=zd i
   obtain⟨A,_⟩:=xq.1 i
   have a3:w1.1[W.1.size]?=I (.mapIter (I b) a c N):=by rcases j with rfl|rfl<;>exact F
   have T:w1.1[b]?=I (.map k a):=by rcases j with rfl|rfl<;>exact z
   have ae:b≠W.1.size:=by omega
   obtain⟨X,D⟩:∃X,setBlock w1 W.1.size (.mapIter (I b) a (c.push e.born) a)=X:=⟨_,rfl⟩
   have w:X.1[W.1.size]?=I (.mapIter (I b) a (c.push e.born) a):=by rw[<-D];exact xE (za a3) _
   have u:X.1[b]?=I (.map k a):=by rw[<-D,xn ae];exact T
   have a1:wr.grownBy X (I W.1.size):=by
    rw[<-D];rcases j with rfl|rfl
    ·exact xb _ _ _
    ·have:=xb wr.drew W.1.size (.mapIter (I b) a (c.push e.born) a)
     exact⟨this.os,this.tape,this.output,this.size,this.block⟩
   rw[D]at d
   have o:=run_entry_at (P:=prog) X W.1.size b a c k a e w u A (ud HE).once
   obtain⟨ac,hk,hv⟩:=Z1 qX he A
   have h:e.val=kV ((yo xx L e).2):=hv
   unfold kV at h
   rw[h]at d o
   have a8:J ((ps.map (yo xx L)).map (fun p:Tok×Lse=>p.2)) X:=ud q _ wr X (I W.1.size) Q a1 (fun r e=>by cases e;exact⟨U _,_,F,rfl⟩)
   obtain⟨y,C⟩:∃y,(yo xx L e).2=y:=⟨_,rfl⟩
   have a6:Hid ((fun p:Tok×Lse=>p.2) (yo xx L e)=y):=C
   rw[C]at d o
   have a0:=(G X.1.size X).alloc (U _) (.cells #[O E y.kd,O E y.s.t,O E y.s.sr,O E y.s.wa,O E y.slot,O E y.til] 164)
   obtain⟨fn,tmps,assign,body,hy,hR⟩:=hY ((ps.map (yo xx L)).map (fun p:Tok×Lse=>p.2)) y _ (zK (ud q) a8 a0) (by rw[List.length_map,List.length_map];have:=hC.lt i;omega)
   have M:=zd w
   have K:=zd u
   have HX:=zd D
   have a5:=zd F
   clear f hC he w u D A a3 T hv hk a1 h F z i j ac C a0 hJ R
   gi_wp2
   refine hR.mono ?_
   rintro e3 W3 (⟨rfl,a7,B⟩|⟨rfl,S,B⟩)
   ·gi_wp2
    have a4:=B.high W.1.size _ (by omega) (fun⟨_,_,e⟩=>by cases e) ((Below.heap_alloc _ _ _ (za (ud M))).trans (ud M))
    have a9:=B.walk b _ ad ((Below.heap_alloc _ _ _ (za (ud K))).trans (ud K)) rfl
    go_roundw
    case rel=>exact⟨_,_,ps++[e],a4,U _,a9,(ud HC).step (ud H),by rw[List.map_append,List.map_append,List.map_singleton,List.map_singleton,ud a6];exact a7⟩
    case measure=>rw[xg a4,xg (ud a5)];exact qC (ud H)
   ·gi_wp2
    refine bodyPost_ret (results_none rfl _ _ _) rfl ?_
    exact⟨⟨_,rfl⟩,.inr ⟨_,trivial,S⟩⟩
theorem zcE(b:Nat)(w:Z):
  Calls prog 94 #[.map (I b)] w fun e w'=>e=.returned (.func (.func 156) #[] #[.pointer (I ⟨w.1.size,0,Y⟩)])/\w'=w.alloc (.cells #[.map (I b)] 168):=by
 go_enter func94,ntmps94
 go_wp2_with fail
 go_ret
 exact⟨rfl,rfl⟩
theorem zgl{ex:Nat->Prop}{n:Nat}(Bm b:Nat)(L:List (Tok×Lse))(w:Z)(e:¬ex b)(c:Bm<w.1.size)(o:w.cell? ⟨Bm,0,Y⟩=I (.map (I b)))(a:zV xx w b L):
  kN ex n prog 156 #[.pointer (I ⟨Bm,0,Y⟩)] (fun x:Lse=>#[.agg #[O E x.kd,O E x.s.t,O E x.s.sr,O E x.s.wa,O E x.slot,O E x.til]]) (fun xs=>∃ps:List (Tok×Lse),ps.Perm L/\xs=ps.map (fun p:Tok×Lse=>p.2)) L.length w:=
 fun m q l J h W g f j d k i=>zhh l Bm b L e J h W f j d k ((g.cell (p:=⟨Bm,0,Y⟩) c).trans o) (a.later g) i
theorem zgg:∀args w,(callFunc 156 args).run prog w=.ok (.enter 156 args) w:=enters_of func156 (by kernel_rfl) rfl
attribute [local go_sem] Oper.semAt_some
theorem zhi{α:Type}(f:α->Tsk)(u:Tsk->α){ex:Nat->Prop}{n m:Nat}(l Bm b:Nat)(L:List (Jk×Tsk))(ag:∀p∈L,f (u p.2)=p.2)(af:¬ex b)(J Jx:List α->Z->Prop)(W:Z)(ai:m<=W.1.size)(hJ:OwnFrom W.1.size J)(T:OwnFrom W.1.size Jx)
  (hY:∀h x V,J h V->h.length<L.length->YieldAt Fence.wide 5 prog l #[.agg #[.iface (f x).jt (.agg #[O E (f x).s.t,O E (f x).s.sr,O E (f x).s.wa]),O E (f x).se,O E (f x).ti,O E (f x).rest]] V fun e V'=>(e=.returned (.bool true)/\J (h++[x]) V'/\KX ex n m V V')\/(e=.returned (.bool false)/\Jx (h++[x]) V'/\KX ex n m V V'))
  (hm:W.cell? ⟨Bm,0,Y⟩=I (.map (I b))) (a5:zV xI W b L) (h0:J [] W):
  CallsIn Fence.wide 6 prog 158 #[.func (.yield l) #[] #[],.pointer (I ⟨Bm,0,Y⟩)] W fun e W'=>(∃v,e=.returned v)/\
   ((∃xs,(∃ps:List (Jk×Tsk),ps.Perm L/\xs=ps.map (fun p:Jk×Tsk=>u p.2))/\J xs W')\/(∃h,True/\Jx h W')):=by
 obtain⟨o,a,hb,he⟩:=a5
 have ad:=za hb
 have g:=run_range_map (P:=prog) W 169 _ _ b o a underlying169 hb
 have HE:=zd he
 have w:=zd hJ
 have ak:=he.count
 refine callsIn_of_wp func158 rfl trivial ?_ rfl
 simp only[ntmps158,List.size_toArray,List.length_cons,List.length_nil,Nat.reduceAdd,Nat.reduceSub,Array.replicate_succ,Array.replicate_zero,List.push_toArray,List.append_toArray,List.nil_append,List.cons_append]
 gi_wp2
 gi_loopw [4] (fun _ wr=>∃(c:Array Nat) (R:Nat) (ps:List MapEntry),wr.1[W.1.size]?=I (.mapIter (I b) a c R)/\a<=R/\wr.1[b]?=I (.map o a)/\Js o c ps/\J ((ps.map (yo xI L)).map (fun p:Jk×Tsk=>u p.2)) wr)
  (fun _ wr=>vP o W.1.size wr)
 case atStart=>
  exact⟨#[],a,[],zm _ _,U _,(Below.heap_alloc _ _ _ ad).trans hb,⟨by simp,by simp,by simp⟩,zK (ud w) h0 ((G _ _).alloc (U _) _)⟩
 case round=>
  obtain⟨c,R,ps,K,ae,B,hC,S⟩:=hrel
  have aj:=za K
  have HC:=zd hC
  rcases run_next_at (P:=prog) wr 0 W.1.size b a R c o a K B (ud HE).born ae with⟨hz,d⟩|⟨e,j,w1,k,d⟩
  ·have HZ:=zd hz
   clear g hz hC he hJ T
   gi_wp2
   go_end0
   exact⟨⟨_,rfl⟩,.inl ⟨_,⟨_,vg qZ (ud HE) ((ud HC).all (ud HE).once (ud HZ)),rfl⟩,S⟩⟩
  ·have M:=zd j
   obtain⟨C,_⟩:=xq.1 j
   have a6:w1.1[W.1.size]?=I (.mapIter (I b) a c R):=by rcases k with rfl|rfl<;>exact K
   have a1:w1.1[b]?=I (.map o a):=by rcases k with rfl|rfl<;>exact B
   have ah:b≠W.1.size:=by omega
   obtain⟨X,H⟩:∃X,setBlock w1 W.1.size (.mapIter (I b) a (c.push e.born) a)=X:=⟨_,rfl⟩
   have A:X.1[W.1.size]?=I (.mapIter (I b) a (c.push e.born) a):=by rw[<-H];exact xE (za a6) _
   have z:X.1[b]?=I (.map o a):=by rw[<-H,xn ah];exact a1
   have a4:wr.grownBy X (I W.1.size):=by
    rw[<-H];rcases k with rfl|rfl
    ·exact xb _ _ _
    ·have:=xb wr.drew W.1.size (.mapIter (I b) a (c.push e.born) a)
     exact⟨this.os,this.tape,this.output,this.size,this.block⟩
   rw[H]at d
   have q:=run_entry_at (P:=prog) X W.1.size b a c o a e A z C (ud HE).once
   obtain⟨a3,hk,hv⟩:=Z1 qZ he C
   have i:e.val=Zi (f (u (yo xI L e).2)):=by rw[ag _ a3];exact hv
   unfold Zi at i
   rw[i]at d q
   have ab:J ((ps.map (yo xI L)).map (fun p:Jk×Tsk=>u p.2)) X:=ud w _ wr X (I W.1.size) S a4 (fun r e=>by cases e;exact⟨U _,_,K,rfl⟩)
   obtain⟨y,F⟩:∃y,u (yo xI L e).2=y:=⟨_,rfl⟩
   have a9:Hid ((fun p:Jk×Tsk=>u p.2) (yo xI L e)=y):=F
   rw[F]at d q
   have a2:=(G X.1.size X).alloc (U _) (.cells #[.iface (f y).jt (.agg #[O E (f y).s.t,O E (f y).s.sr,O E (f y).s.wa]),O E (f y).se,O E (f y).ti,O E (f y).rest] 177)
   obtain⟨fn,tmps,assign,body,hy,hR⟩:=hY ((ps.map (yo xI L)).map (fun p:Jk×Tsk=>u p.2)) y _ (zK (ud w) ab a2) (by rw[List.length_map,List.length_map];have:=hC.lt j;omega)
   have Q:=zd A
   have N:=zd z
   have HX:=zd H
   have a8:=zd K
   clear g hC he A z H C a6 a1 hv hk a4 i K B j k a3 F a2 hJ T
   gi_wp2
   refine hR.mono ?_
   rintro e3 W3 (⟨rfl,aa,D⟩|⟨rfl,a0,D⟩)
   ·gi_wp2
    have a7:=D.high W.1.size _ (by omega) (fun⟨_,_,e⟩=>by cases e) ((Below.heap_alloc _ _ _ (za (ud Q))).trans (ud Q))
    have ac:=D.walk b _ af ((Below.heap_alloc _ _ _ (za (ud N))).trans (ud N)) rfl
    go_roundw
    case rel=>exact⟨_,_,ps++[e],a7,U _,ac,(ud HC).step (ud M),by rw[List.map_append,List.map_append,List.map_singleton,List.map_singleton,ud a9];exact aa⟩
    case measure=>rw[xg a7,xg (ud a8)];exact qC (ud M)
   ·gi_wp2
    refine bodyPost_ret (results_none rfl _ _ _) rfl ?_
    exact⟨⟨_,rfl⟩,.inr ⟨_,trivial,a0⟩⟩
theorem zcF(b:Nat)(w:Z):
  Calls prog 97 #[.map (I b)] w fun e w'=>e=.returned (.func (.func 158) #[] #[.pointer (I ⟨w.1.size,0,Y⟩)])/\w'=w.alloc (.cells #[.map (I b)] 169):=by
 go_enter func97,ntmps97
 go_wp2_with fail
 go_ret
 exact⟨rfl,rfl⟩
theorem ziR{α:Type}(a:α->Tsk)(i:Tsk->α){ex:Nat->Prop}{n:Nat}(Bm b:Nat)(L:List (Jk×Tsk))(h:∀p∈L,a (i p.2)=p.2)(w:Z)(f:¬ex b)(d:Bm<w.1.size)(u:w.cell? ⟨Bm,0,Y⟩=I (.map (I b)))(c:zV xI w b L):
  kN ex n prog 158 #[.pointer (I ⟨Bm,0,Y⟩)] (fun x:α=>#[.agg #[.iface (a x).jt (.agg #[O E (a x).s.t,O E (a x).s.sr,O E (a x).s.wa]),O E (a x).se,O E (a x).ti,O E (a x).rest]]) (fun xs=>∃ps:List (Jk×Tsk),ps.Perm L/\xs=ps.map (fun p:Jk×Tsk=>i p.2)) L.length w:=
 fun m v l J k W j g q e r o=>zhi a i l Bm b L h f J k W g q e r ((j.cell (p:=⟨Bm,0,Y⟩) d).trans u) (c.later j) o
theorem zgh:∀args w,(callFunc 158 args).run prog w=.ok (.enter 158 args) w:=enters_of func158 (by kernel_rfl) rfl
attribute [local go_sem] Oper.semAt_some
theorem zfc{α:Type}(f:α->Tsk)(o:Tsk->α)(l Bm b:Nat)(L:List (Jk×Tsk))(ad:∀p∈L,f (o p.2)=p.2)(J Jx:List α->Z->Prop)(W:Z)(hJ:OwnFrom W.1.size J)(R:OwnFrom W.1.size Jx)
  (hY:∀h x V,J h V->h.length<L.length->YieldAt Fence.wide 5 prog l #[.agg #[.iface (f x).jt (.agg #[O E (f x).s.t,O E (f x).s.sr,O E (f x).s.wa]),O E (f x).se,O E (f x).ti,O E (f x).rest]] V fun e V'=>(e=.returned (.bool true)/\J (h++[x]) V'/\KeepsWalks V V')\/(e=.returned (.bool false)/\Jx (h++[x]) V'/\KeepsWalks V V'))
  (hm:W.cell? ⟨Bm,0,Y⟩=I (.map (I b))) (a3:zV xI W b L) (h0:J [] W):
  CallsIn Fence.wide 6 prog 158 #[.func (.yield l) #[] #[],.pointer (I ⟨Bm,0,Y⟩)] W fun e W'=>(∃v,e=.returned v)/\
   ((∃xs,(∃ps:List (Jk×Tsk),ps.Perm L/\xs=ps.map (fun p:Jk×Tsk=>o p.2))/\J xs W')\/(∃h,True/\Jx h W')):=by
 obtain⟨m,a,hb,he⟩:=a3
 have ab:=za hb
 have g:=run_range_map (P:=prog) W 169 _ _ b m a underlying169 hb
 have HE:=zd he
 have q:=zd hJ
 have ag:=he.count
 refine callsIn_of_wp func158 rfl trivial ?_ rfl
 simp only[ntmps158,List.size_toArray,List.length_cons,List.length_nil,Nat.reduceAdd,Nat.reduceSub,Array.replicate_succ,Array.replicate_zero,List.push_toArray,List.append_toArray,List.nil_append,List.cons_append]
 gi_wp2
 gi_loopw [4] (fun _ wr=>∃(c:Array Nat) (N:Nat) (ps:List MapEntry),wr.1[W.1.size]?=I (.mapIter (I b) a c N)/\a<=N/\wr.1[b]?=I (.map m a)/\Js m c ps/\J ((ps.map (yo xI L)).map (fun p:Jk×Tsk=>o p.2)) wr)
  (fun _ wr=>vP m W.1.size wr)
 case atStart=>
  exact⟨#[],a,[],zm _ _,U _,(Below.heap_alloc _ _ _ ab).trans hb,⟨by simp,by simp,by simp⟩,zK (ud q) h0 ((G _ _).alloc (U _) _)⟩
 case round=>
  obtain⟨c,N,ps,F,ac,z,hC,Q⟩:=hrel
  have af:=za F
  have HC:=zd hC
  rcases run_next_at (P:=prog) wr 0 W.1.size b a N c m a F z (ud HE).born ac with⟨hz,d⟩|⟨e,j,w1,k,d⟩
  ·have HZ:=zd hz
   clear g hz hC he hJ R
   gi_wp2
   go_end0
   exact⟨⟨_,rfl⟩,.inl ⟨_,⟨_,vg qZ (ud HE) ((ud HC).all (ud HE).once (ud HZ)),rfl⟩,Q⟩⟩
  ·have H:=zd j
   obtain⟨A,_⟩:=xq.1 j
   have a4:w1.1[W.1.size]?=I (.mapIter (I b) a c N):=by rcases k with rfl|rfl<;>exact F
   have T:w1.1[b]?=I (.map m a):=by rcases k with rfl|rfl<;>exact z
   have ae:b≠W.1.size:=by omega
   obtain⟨X,D⟩:∃X,setBlock w1 W.1.size (.mapIter (I b) a (c.push e.born) a)=X:=⟨_,rfl⟩
   have w:X.1[W.1.size]?=I (.mapIter (I b) a (c.push e.born) a):=by rw[<-D];exact xE (za a4) _
   have u:X.1[b]?=I (.map m a):=by rw[<-D,xn ae];exact T
   have a2:wr.grownBy X (I W.1.size):=by
    rw[<-D];rcases k with rfl|rfl
    ·exact xb _ _ _
    ·have:=xb wr.drew W.1.size (.mapIter (I b) a (c.push e.born) a)
     exact⟨this.os,this.tape,this.output,this.size,this.block⟩
   rw[D]at d
   have n:=run_entry_at (P:=prog) X W.1.size b a c m a e w u A (ud HE).once
   obtain⟨a1,hk,hv⟩:=Z1 qZ he A
   have i:e.val=Zi (f (o (yo xI L e).2)):=by rw[ad _ a1];exact hv
   unfold Zi at i
   rw[i]at d n
   have a9:J ((ps.map (yo xI L)).map (fun p:Jk×Tsk=>o p.2)) X:=ud q _ wr X (I W.1.size) Q a2 (fun r e=>by cases e;exact⟨U _,_,F,rfl⟩)
   obtain⟨y,C⟩:∃y,o (yo xI L e).2=y:=⟨_,rfl⟩
   have a7:Hid ((fun p:Jk×Tsk=>o p.2) (yo xI L e)=y):=C
   rw[C]at d n
   have a0:=(G X.1.size X).alloc (U _) (.cells #[.iface (f y).jt (.agg #[O E (f y).s.t,O E (f y).s.sr,O E (f y).s.wa]),O E (f y).se,O E (f y).ti,O E (f y).rest] 177)
   obtain⟨fn,tmps,assign,body,hy,hR⟩:=hY ((ps.map (yo xI L)).map (fun p:Jk×Tsk=>o p.2)) y _ (zK (ud q) a9 a0) (by rw[List.length_map,List.length_map];have:=hC.lt j;omega)
   have M:=zd w
   have K:=zd u
   have HX:=zd D
   have a6:=zd F
   clear g hC he w u D A a4 T hv hk a2 i F z j k a1 C a0 hJ R
   gi_wp2
   refine hR.mono ?_
   rintro e3 W3 (⟨rfl,a8,B⟩|⟨rfl,S,B⟩)
   ·gi_wp2
    have a5:=B.same W.1.size _ ((Below.heap_alloc _ _ _ (za (ud M))).trans (ud M)) rfl
    have aa:=B.same b _ ((Below.heap_alloc _ _ _ (za (ud K))).trans (ud K)) rfl
    go_roundw
    case rel=>exact⟨_,_,ps++[e],a5,U _,aa,(ud HC).step (ud H),by rw[List.map_append,List.map_append,List.map_singleton,List.map_singleton,ud a7];exact a8⟩
    case measure=>rw[xg a5,xg (ud a6)];exact qC (ud H)
   ·gi_wp2
    refine bodyPost_ret (results_none rfl _ _ _) rfl ?_
    exact⟨⟨_,rfl⟩,.inr ⟨_,trivial,S⟩⟩
theorem zhj{α:Type}(a:α->Tsk)(g:Tsk->α)(Bm b:Nat)(L:List (Jk×Tsk))(f:∀p∈L,a (g p.2)=p.2)(w:Z)(d:Bm<w.1.size)(n:w.cell? ⟨Bm,0,Y⟩=I (.map (I b)))(c:zV xI w b L):
  X5 Fence.wide 6 prog 158 #[.pointer (I ⟨Bm,0,Y⟩)] (fun x:α=>#[.agg #[.iface (a x).jt (.agg #[O E (a x).s.t,O E (a x).s.sr,O E (a x).s.wa]),O E (a x).se,O E (a x).ti,O E (a x).rest]]) KeepsWalks (fun xs=>∃ps:List (Jk×Tsk),ps.Perm L/\xs=ps.map (fun p:Jk×Tsk=>g p.2)) (fun _=>True) L.length 0 w:=
 fun l J i W h _ k e m j=>zfc a g l Bm b L f J i W k e m ((h.cell (p:=⟨Bm,0,Y⟩) d).trans n) (c.later h) j
def zgs(x:Tsk):List Value:=[.iface x.jt (.agg #[O E x.s.t,O E x.s.sr,O E x.s.wa]),O E x.se,O E x.ti,O E x.rest]
theorem zfX(x:Tsk):∀v∈zgs x,v.oneCell'=true:=fun v hv=>by
 simp only[zgs,List.mem_cons,List.not_mem_nil,or_false]at hv
 rcases hv with rfl|rfl|rfl|rfl<;>rfl
theorem j5{W c:Z}{a:Option Nat}{base:Nat}{e:TypeId}{size:Nat}{v:Value}{k:Nat}{xs:List Value}(h:W.ownsRow base e size v k xs)(j:W.grownBy c a)(l:∀r,a=I r->∃o:Obj,W.1[r]?=I o/\o.isCells=false):c.ownsRow base e size v k xs:=by
 refine h.kept j ?_
 rcases h.2 with⟨rfl,_⟩|⟨g,cap,f,rfl,_,b,_⟩
 ·exact .inl rfl
 ·refine .inr fun i=>?_
  obtain⟨o,d,m⟩:=l g (by simpa[Value.ownBlock]using i.symm)
  rw[b]at d;cases d;cases m
attribute [local go_sem] Oper.semAt_some
theorem zcG(l Bm b:Nat)(L:List (Sg×SX))(J Jx:List SX->Z->Prop)(W:Z)(hJ:OwnFrom W.1.size J)(M:OwnFrom W.1.size Jx)
  (hY:∀g x V,J g V->g.length<L.length->YieldAt Fence.wide 5 prog l #[.agg #[O E x.1.t,O E x.1.sr,O E x.1.wa,O E x.2.st,O E x.2.cl.cnt,O E x.2.cl.sum,O i32 x.2.cl.mn,O i32 x.2.cl.mx]] V fun e V'=>(e=.returned (.bool true)/\J (g++[x]) V'/\KeepsWalks V V')\/(e=.returned (.bool false)/\Jx (g++[x]) V'/\KeepsWalks V V'))
  (hm:W.cell? ⟨Bm,0,Y⟩=I (.map (I b))) (a0:zV qN W b L) (h0:J [] W):
  CallsIn Fence.wide 6 prog 150 #[.func (.yield l) #[] #[],.pointer (I ⟨Bm,0,Y⟩)] W fun e W'=>(∃v,e=.returned v)/\
   ((∃xs,(∃ps:List (Sg×SX),ps.Perm L/\xs=ps.map (fun p:Sg×SX=>p.2))/\J xs W')\/(∃g,True/\Jx g W')):=by
 obtain⟨k,a,hb,S⟩:=a0
 have a8:=za hb
 have f:=run_range_map (P:=prog) W 152 _ _ b k a underlying152 hb
 have HE:=zd S
 have n:=zd hJ
 have ad:=S.count
 refine callsIn_of_wp func150 rfl trivial ?_ rfl
 simp only[ntmps150,List.size_toArray,List.length_cons,List.length_nil,Nat.reduceAdd,Nat.reduceSub,Array.replicate_succ,Array.replicate_zero,List.push_toArray,List.append_toArray,List.nil_append,List.cons_append]
 gi_wp2
 gi_loopw [4] (fun _ wr=>∃(c:Array Nat) (H:Nat) (ps:List MapEntry),wr.1[W.1.size]?=I (.mapIter (I b) a c H)/\a<=H/\wr.1[b]?=I (.map k a)/\Js k c ps/\J ((ps.map (yo qN L)).map (fun p:Sg×SX=>p.2)) wr)
  (fun _ wr=>vP k W.1.size wr)
 case atStart=>
  exact⟨#[],a,[],zm _ _,U _,(Below.heap_alloc _ _ _ a8).trans hb,⟨by simp,by simp,by simp⟩,zK (ud n) h0 ((G _ _).alloc (U _) _)⟩
 case round=>
  obtain⟨c,H,ps,B,a9,s,hC,K⟩:=hrel
  have ac:=za B
  have HC:=zd hC
  rcases run_next_at (P:=prog) wr 0 W.1.size b a H c k a B s (ud HE).born a9 with⟨hz,d⟩|⟨e,i,w1,j,d⟩
  ·have HZ:=zd hz
   clear f hz hC S hJ M
   gi_wp2
   go_end0
   exact⟨⟨_,rfl⟩,.inl ⟨_,⟨_,vg jM (ud HE) ((ud HC).all (ud HE).once (ud HZ)),rfl⟩,K⟩⟩
  ·have C:=zd i
   obtain⟨u,_⟩:=xq.1 i
   have a1:w1.1[W.1.size]?=I (.mapIter (I b) a c H):=by rcases j with rfl|rfl<;>exact B
   have Q:w1.1[b]?=I (.map k a):=by rcases j with rfl|rfl<;>exact s
   have ab:b≠W.1.size:=by omega
   obtain⟨X,A⟩:∃X,setBlock w1 W.1.size (.mapIter (I b) a (c.push e.born) a)=X:=⟨_,rfl⟩
   have q:X.1[W.1.size]?=I (.mapIter (I b) a (c.push e.born) a):=by rw[<-A];exact xE (za a1) _
   have o:X.1[b]?=I (.map k a):=by rw[<-A,xn ab];exact Q
   have T:wr.grownBy X (I W.1.size):=by
    rw[<-A];rcases j with rfl|rfl
    ·exact xb _ _ _
    ·have:=xb wr.drew W.1.size (.mapIter (I b) a (c.push e.born) a)
     exact⟨this.os,this.tape,this.output,this.size,this.block⟩
   rw[A]at d
   have m:=run_entry_at (P:=prog) X W.1.size b a c k a e q o u (ud HE).once
   obtain⟨aa,hk,hv⟩:=Z1 jM S u
   have h:e.val=yP ((yo qN L e).2):=hv
   unfold yP at h
   rw[h]at d m
   have a6:J ((ps.map (yo qN L)).map (fun p:Sg×SX=>p.2)) X:=ud n _ wr X (I W.1.size) K T (fun r e=>by cases e;exact⟨U _,_,B,rfl⟩)
   obtain⟨y,z⟩:∃y,(yo qN L e).2=y:=⟨_,rfl⟩
   have a4:Hid ((fun p:Sg×SX=>p.2) (yo qN L e)=y):=z
   rw[z]at d m
   have R:=(G X.1.size X).alloc (U _) (.cells #[O E y.1.t,O E y.1.sr,O E y.1.wa,O E y.2.st,O E y.2.cl.cnt,O E y.2.cl.sum,O i32 y.2.cl.mn,O i32 y.2.cl.mx] 148)
   obtain⟨fn,tmps,assign,body,hy,hR⟩:=hY ((ps.map (yo qN L)).map (fun p:Sg×SX=>p.2)) y _ (zK (ud n) a6 R) (by rw[List.length_map,List.length_map];have:=hC.lt i;omega)
   have F:=zd q
   have D:=zd o
   have HX:=zd A
   have a3:=zd B
   clear f hC S q o A u a1 Q hv hk T h B s i j aa z R hJ M
   gi_wp2
   refine hR.mono ?_
   rintro e3 W3 (⟨rfl,a5,w⟩|⟨rfl,N,w⟩)
   ·gi_wp2
    have a2:=w.same W.1.size _ ((Below.heap_alloc _ _ _ (za (ud F))).trans (ud F)) rfl
    have a7:=w.same b _ ((Below.heap_alloc _ _ _ (za (ud D))).trans (ud D)) rfl
    go_roundw
    case rel=>exact⟨_,_,ps++[e],a2,U _,a7,(ud HC).step (ud C),by rw[List.map_append,List.map_append,List.map_singleton,List.map_singleton,ud a4];exact a5⟩
    case measure=>rw[xg a2,xg (ud a3)];exact qC (ud C)
   ·gi_wp2
    refine bodyPost_ret (results_none rfl _ _ _) rfl ?_
    exact⟨⟨_,rfl⟩,.inr ⟨_,trivial,N⟩⟩
theorem zfb(Bm b:Nat)(L:LV)(w:Z)(c:Bm<w.1.size)(q:w.cell? ⟨Bm,0,Y⟩=I (.map (I b)))(a:zV qN w b (kt L)):
  X5 Fence.wide 6 prog 150 #[.pointer (I ⟨Bm,0,Y⟩)] (fun x:SX=>#[.agg #[O E x.1.t,O E x.1.sr,O E x.1.wa,O E x.2.st,O E x.2.cl.cnt,O E x.2.cl.sum,O i32 x.2.cl.mn,O i32 x.2.cl.mx]]) KeepsWalks (fun xs=>xs.Perm L) (fun _=>True) L.length 0 w:=
 fun l J i W g _ n d o j=>(zcG l Bm b (kt L) J i W n d (by rw[XT];exact o) ((g.cell (p:=⟨Bm,0,Y⟩) c).trans q) (a.later g) j).mono (by
  rintro e r ⟨f,⟨xs,⟨ps,k,rfl⟩,m⟩|h⟩
  ·exact⟨f,.inl ⟨_,XU k,m⟩⟩
  ·exact⟨f,.inr h⟩)
attribute [local go_sem] Oper.semAt_some
theorem zeu:(prog.info? 177).map (fun i=>(i.zero,i.size,i.bytes))=I (I (.agg #[.nilIface,O E 0,O E 0,O E 0]),4,40):=by kernel_rfl
theorem zgA:∃i:TypeInfo,prog.info? 177=I i/\i.zero=I (.agg #[.nilIface,O E 0,O E 0,O E 0])/\i.size=4/\i.bytes=40:=by
 have h:=zeu
 cases a:prog.info? 177 with
 |none=>simp[a]at h
 |some i=>
  simp only[a,Option.map_some,Option.some.injEq,Prod.mk.injEq]at h
  exact⟨i,rfl,h.1,h.2.1,h.2.2⟩
def apI(w:Z)(a:List Tsk)(W:Z):Prop:=∃v,W.1[w.1.size]?=I (.cells #[v] 186 (0,0))/\W.ownsRow w.1.size 177 4 v a.length (a.flatMap zgs)/\Below w.1.size w W
theorem apI.later{w:Z}{a:List Tsk}{W c:Z}(h:apI w a W)(b:Below W.1.size W c):apI w a c:=by
 obtain⟨v,d,i,g⟩:=h
 exact⟨v,(b.block _ (za d)).trans d,zk i (zo.of_below (f:=fun _=>False) b) (fun _ _ e=>e),g.trans (b.mono g.size)⟩
theorem zaG{W c:Z}{base:Nat}{e:TypeId}{size:Nat}{v:Value}{n:Nat}{xs:List Value}(i:W.ownsRow base e size v n xs)(d:W.grownBy c v.ownBlock)(B:Nat):KeepsFrom B W c/\KeepsWalks W c:=by
 have key:∀(k:Nat) (o:Obj),W.1[k]?=I o->o.isCells=false->c.1[k]?=I o:=fun k o a b=>(d.block k (za a) (fun e=>by
  rcases i.2 with⟨rfl,_⟩|⟨g,cap,h,rfl,_,f,_⟩
  ·simp[Value.ownBlock]at e
  ·have:k=g:=by simpa[Value.ownBlock]using e
   subst this;rw[f]at a;cases a;cases b)).trans a
 exact⟨⟨d.size,fun k o _ a b=>key k o a b⟩,⟨d.size,fun k o a b=>key k o a (Obj.not_cells_of_walk b)⟩⟩
theorem zbg{F:Fence}{n:Nat}{W:Z}{ops:Array Oper}{rest:List Oper}{o:Oper}{a:Act}{Q:Exit->Act->Z->Prop}(m:o.guard=Y)(s x:Operand)
  (B:o.op=.call {callee:=.builtin .append,args:=#[s,x],argTypes:=#[186,186]}) (base:Nat) (v:Value) (l:List Tsk) (f:Tsk) (C:a.eval s=v) (e:W.ownsRow base 177 4 v l.length (l.flatMap zgs))
  (i:Nat) (D:a.eval x=.slice (I ⟨i,0,Y⟩) 1 1) (j:W.1[i]?=I (.cells #[.iface f.jt (.agg #[O E f.s.t,O E f.s.sr,O E f.s.wa]),O E f.se,O E f.ti,O E f.rest] 177 (0,0))) (J:l.length<=1000000) (hbase:base<=W.1.size)
  (h:∀g cap w',w'.ownsRow base 177 4 (.slice (I ⟨g,0,Y⟩) (l.length+1) cap) (l++[f]).length ((l++[f]).flatMap zgs)->W.grownBy w' v.ownBlock->g<w'.1.size->wpListIn F n prog ops Q rest (a.put o.dst (.slice (I ⟨g,0,Y⟩) (l.length+1) cap)) w'):wpListIn F n prog ops Q (o::rest) a W:=by
 obtain⟨i0,A,p,q,r⟩:=zgA
 refine wpListIn_append_own_at W m s x 186 B base 177 i0 (.agg #[.nilIface,O E 0,O E 0,O E 0]) 4 40 underlying186 A p q r rfl (by decide) v l.length _ C e ⟨i,0,Y⟩ 1 1 (zgs f) D rfl (World.news_of_block (cs:=(zgs f).toArray) j) (zfX f) (by simp only[maxLen];omega) (by omega) hbase ?_
 intro K H b k u y
 obtain⟨z,c,rfl,w,d⟩:=b.form (by omega)
 exact h z c H (zeR b) k d
theorem zbW(gf:Nat)(lb:Array Value)(eg:∀args w,(callFunc gf args).run prog w=.ok (.enter gf args) w){N:Nat}{S:List Tsk->Prop}(w:Z)(hN:N<=1000000)
  (q:X5 Fence.wide 6 prog gf lb (fun x:Tsk=>#[.agg #[.iface x.jt (.agg #[O E x.s.t,O E x.s.sr,O E x.s.wa]),O E x.se,O E x.ti,O E x.rest]]) KeepsWalks S (fun _=>True) N 0 w):
  Calls prog 228 #[.slice Y 0 0,.func (.func gf) #[] lb] w fun e w'=>∃xs v,S xs/\e=.returned v/\w'.ownsRow w.1.size 177 4 v xs.length (xs.flatMap zgs)/\Below w.1.size w w':=by
 have P:=zd q
 have a1:=zd eg
 have b1:=zm w (.cells #[.slice Y 0 0] 186)
 have bz:=zL w (.cells #[.slice Y 0 0] 186)
 have X:Below w.1.size w (w.alloc (.cells #[.slice Y 0 0] 186)):=(G _ _).alloc (U _) _
 clear q eg
 refine(callsIn_wide (n:=7)).1 ?_
 refine callsIn_of_wp_marks func228 rfl trivial ?_ rfl
 simp only[ntmps228,List.size_toArray,List.length_cons,List.length_nil,Nat.reduceAdd,Nat.reduceSub,Array.replicate_succ,Array.replicate_zero,List.push_toArray,List.append_toArray,List.nil_append,List.cons_append]
 have B1:=zd b1
 have u:=zd X
 have BZ:=zd bz
 clear b1 X bz
 gi_wp2
 obtain⟨W0,V⟩:∃W0,(w.alloc (.cells #[.slice Y 0 0] 186))=W0:=⟨_,rfl⟩
 rw[V]at B1 u BZ ⊢
 clear V
 have hz:W0.1.size=w.1.size+1:=ud BZ
 refine qD (F:=Fence.wide) (n:=7) rfl (by omega) (gf:=gf) (lb:=lb) rfl trivial (ud a1) (ud P) (by omega) (fun h k=>h.trans k) (fun W o o' h hc hw=>KeepsWalks.putObj _ h hw) (ud u) (fun _=>rfl)
  (apI w) (fun _ _ _=>False)
  (fun s A B a8 hs z C=>by
   obtain⟨v,R,h2,T⟩:=hs
   exact⟨v,zt R z (fun r e=>(C r e).2),j5 h2 z (fun r e=>(C r e).2),T.grown z T.size (fun k e=>by have:=(C k e).1;omega)⟩)
  (fun _ _ _ _ _ hs _ _=>hs)
  ⟨_,ud B1,⟨rfl,.inl ⟨rfl,rfl⟩⟩,ud u⟩
  (fun x a' W=>∃H,w.1.size+1<=H/\W.1[H]?=I (.cells #[.iface x.jt (.agg #[O E x.s.t,O E x.s.sr,O E x.s.wa]),O E x.se,O E x.ti,O E x.rest] 177 (0,0))/\a'={tmps:=#[.slice Y 0 0,.func (.func gf) #[] lb,.pointer (I ⟨w.1.size,0,Y⟩),undef,.slice Y 0 0,.pointer (I ⟨H,0,Y⟩),.func (.func gf) #[] lb,.agg #[.iface x.jt (.agg #[O E x.s.t,O E x.s.sr,O E x.s.wa]),O E x.se,O E x.ti,O E x.rest],undef,undef,undef,undef,undef],defers:=[]})
  (fun x a' s A B a8 hs z C=>by
   obtain⟨H,R,h2,T⟩:=hs
   exact⟨H,R,zt h2 z (fun r e=>(C r e).2),T⟩) ?assign ?body ?done ?stop
 case assign=>
  rintro l d x W K hI J
  have HK:=zd J
  have HI:=zd hI
  clear J hI
  gi_wp2
  have g:=(G W.1.size W).alloc (U _) (.cells #[.iface x.jt (.agg #[O E x.s.t,O E x.s.sr,O E x.s.wa]),O E x.se,O E x.ti,O E x.rest] 177)
  have ae:w.1.size<W.1.size:=by obtain⟨v,R,h2,T⟩:=ud HI;exact za R
  exact ud HK _ _ (zh g) (KeepsWalks.alloc _ _) ((ud HI).later g) ⟨W.1.size,by omega,zm _ _,rfl⟩
 case body=>
  rintro l d x a' W hl ⟨r,C⟩ ⟨v,i1,i2,i3⟩ ⟨H,ac,hx,rfl⟩ ad
  obtain⟨va,vc,rfl⟩:=zS i2
  have a7:=za i1
  have af:=za hx
  obtain⟨c1,-⟩:=zc i1
  obtain⟨x0,x1,x2,x3,-⟩:=zc hx
  have M:=zd i1
  have a:=zd i2
  have y:=zd i3
  have HX:=zd hx
  clear i1 i2 i3 hx C
  gi_wp2_with (first
   |(gi_at_builtin;refine zbg rfl _ _ rfl w.1.size _ d x rfl ((ud a).alloc _) W.1.size rfl (zm _ _) (by omega) (by rw[zL];omega) ?_;intro g' a9 w3 b j aa
     have a0:=zaG ((ud a).alloc (.cells #[.iface x.jt (.agg #[O E x.s.t,O E x.s.sr,O E x.s.wa]),O E x.se,O E x.ti,O E x.rest] 177)) j W0.1.size
     have Q:w3.1[w.1.size]?=I (.cells #[.slice va d.length vc] 186 (0,0)):=(j.block w.1.size (by rw[zL];omega) (fun e=>zu (ud M) (ud a) (by decide) w.1.size e.symm rfl)).trans ((Below.heap_alloc _ _ _ a7).trans (ud M))
     obtain⟨d1,-⟩:=zc Q
     have f1:w3.frozen? ⟨w.1.size,0,Y⟩=false:=zE Q 0
     have ab:=za Q
     have a4:=zd b
     have a2:=zd j
     have a3:=zd a0
     have L:=zd Q
     clear b j a0 Q
     go_frame)
   |gi_in)
  have hk:=ud a3
  have z:(W.alloc (.cells #[.iface x.jt (.agg #[O E x.s.t,O E x.s.sr,O E x.s.wa]),O E x.se,O E x.ti,O E x.rest] 177)).grownBy w3 (Value.slice va d.length vc).ownBlock:=ud a2
  have m:=ud a4
  have hb:=ud y
  have g:=(G W.1.size W).alloc (U _) (.cells #[.iface x.jt (.agg #[O E x.s.t,O E x.s.sr,O E x.s.wa]),O E x.se,O E x.ti,O E x.rest] 177)
  have a5:Below w.1.size w w3:=(hb.alloc hb.size _).grown z (by have:=hb.size;rw[zL];omega) (fun k e=>((ud a).lt k e).1)
  refine⟨((zh g).trans hk.1).trans ((KeepsOthers.setCell w3 ⟨w.1.size,0,Y⟩ _).from _),((KeepsWalks.alloc _ _).trans hk.2).trans (KeepsWalks.setCell _ _ _),?_⟩
  exact⟨_,xy (i:=0) (ud L) _,zk m (zi (f:=fun k=>k=w.1.size) (zo.refl _ _) rfl) (fun k a6 e=>zu (ud L) m (by decide) k a6 e),a5.setCell (p:=⟨w.1.size,0,Y⟩) (U _) _⟩
 case done=>
  rintro D xs W hD hS ⟨v,i1,i2,i3⟩ J
  obtain⟨va,vc,rfl⟩:=zS i2
  obtain⟨c2,-⟩:=zc i1
  have a:=zd i2
  have y:=zd i3
  clear i1 i2 i3
  gi_wp2
  refine⟨by simp,.inl ⟨_,_,rfl,run_takeDeferred J,?_⟩⟩
  exact⟨_,results_tmp rfl _ _ _,xs,_,hS,rfl,j5 (ud a) (grownBy_putObj' _ _ _) (fun r e=>by cases e;exact⟨_,J,rfl⟩),xj (ud y) (U _) (by omega) J _⟩
 case stop=>
  rintro D c d W _ _ h _
  exact h.elim
end Go.Proofs.YtndhpgciopcncaaGreatDoor
