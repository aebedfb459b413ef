import Derived.Maps.OwnIn
import Derived.OwnWalkIn
import Derived.Test.YtpbimdkclnekeaaGreatVSum1
import Derived.Test.YtpbimdkclnekeaaGreatVSum2
import Derived.Laws.ResultCell
open Go.Value renaming int → I
open Go.IntKind renaming i64 → O
open Option renaming some → E
open Nat renaming le_refl → U
open Option renaming none → G
open Go.RowKit.Below renaming refl → R
open Go renaming World → T
open Go.RowKit renaming Below → C
open Go renaming Value → z5
open Go.IntKind renaming i32 → z6
open Nat renaming le_trans → z7
set_option linter.unusedVariables false
set_option maxRecDepth 100000
set_option maxHeartbeats 4000000
open Go.Proofs.Tryz
namespace Go.Proofs.YtpbimdkclnekeaaGreat
open Go.ChangeMaps (setBlock)
open Go.RowKit Go.Maps Go.Shelf
attribute [local go_sem] Oper.semAt_some
theorem zhD{ex:Nat->Prop}{n m:Nat}(l Bm b:Nat)(L:List (Sg×SV))(ac:¬ex b)(J Jx:List SV->T->Prop)(W:T)(ae:m<=W.1.size)(hJ:OwnFrom W.1.size J)(Q:OwnFrom W.1.size Jx)
  (hY:∀g x V,J g V->g.length<L.length->YieldAt Fence.wide 5 prog l #[.agg #[I O x.st,I O x.cl.cnt,I O x.cl.sum,I z6 x.cl.mn,I z6 x.cl.mx]] V fun e V'=>(e=.returned (.bool true)/\J (g++[x]) V'/\KX ex n m V V')\/(e=.returned (.bool false)/\Jx (g++[x]) V'/\KX ex n m V V'))
  (hm:W.cell? ⟨Bm,0,G⟩=E (.map (E b))) (a1:xh vD W b L) (h0:J [] W):
  CallsIn Fence.wide 6 prog 125 #[.func (.yield l) #[] #[],.pointer (E ⟨Bm,0,G⟩)] W fun e W'=>(∃v,e=.returned v)/\
   ((∃xs,(∃ps:List (Sg×SV),ps.Perm L/\xs=ps.map (fun p:Sg×SV=>p.2))/\J xs W')\/(∃g,True/\Jx g W')):=by
 obtain⟨k,a,hb,he⟩:=a1
 have a9:=zd hb
 have f:=run_range_map (P:=prog) W 135 _ _ b k a underlying135 hb
 have HE:=ze he
 have q:=ze hJ
 have ag:=he.count
 refine callsIn_of_wp func125 rfl trivial ?_ rfl
 simp only[ntmps125,List.size_toArray,List.length_cons,List.length_nil,Nat.reduceAdd,Nat.reduceSub,Array.replicate_succ,Array.replicate_zero,List.push_toArray,List.append_toArray,List.nil_append,List.cons_append]
 gi_wp2
 gi_loopw [4] (fun _ wr=>∃(c:Array Nat) (M:Nat) (ps:List MapEntry),wr.1[W.1.size]?=E (.mapIter (E b) a c M)/\a<=M/\wr.1[b]?=E (.map k a)/\zef k c ps/\J ((ps.map (vK vD L)).map (fun p:Sg×SV=>p.2)) wr)
  (fun _ wr=>Zj k W.1.size wr)
 case atStart=>
  exact⟨#[],a,[],zo _ _,U _,(Below.heap_alloc _ _ _ a9).trans hb,⟨by simp,by simp,by simp⟩,zX (ud q) h0 ((R _ _).alloc (U _) _)⟩
 case round=>
  obtain⟨c,M,ps,D,aa,u,hC,N⟩:=hrel
  have af:=zd D
  have HC:=ze hC
  rcases run_next_at (P:=prog) wr 0 W.1.size b a M c k a D u (ud HE).born aa with⟨hz,d⟩|⟨e,i,w1,j,d⟩
  ·have HZ:=ze hz
   clear f hz hC he hJ Q
   gi_wp2
   go_end0
   exact⟨⟨_,rfl⟩,.inl ⟨_,⟨_,X9 Yk (ud HE) ((ud HC).all (ud HE).once (ud HZ)),rfl⟩,N⟩⟩
  ·have F:=ze i
   obtain⟨w,_⟩:=xC.1 i
   have a2:w1.1[W.1.size]?=E (.mapIter (E b) a c M):=by rcases j with rfl|rfl<;>exact D
   have Y:w1.1[b]?=E (.map k a):=by rcases j with rfl|rfl<;>exact u
   have ad:b≠W.1.size:=by omega
   obtain⟨X,B⟩:∃X,setBlock w1 W.1.size (.mapIter (E b) a (c.push e.born) a)=X:=⟨_,rfl⟩
   have t:X.1[W.1.size]?=E (.mapIter (E b) a (c.push e.born) a):=by rw[<-B];exact xN (zd a2) _
   have s:X.1[b]?=E (.map k a):=by rw[<-B,xw ad];exact Y
   have a0:wr.grownBy X (E W.1.size):=by
    rw[<-B];rcases j with rfl|rfl
    ·exact xA _ _ _
    ·have:=xA wr.drew W.1.size (.mapIter (E b) a (c.push e.born) a)
     exact⟨this.os,this.tape,this.output,this.size,this.block⟩
   rw[B]at d
   have o:=run_entry_at (P:=prog) X W.1.size b a c k a e t s w (ud HE).once
   obtain⟨ab,hk,hv⟩:=XY Yk he w
   have h:e.val=vs ((vK vD L e).2):=hv
   unfold vs at h
   rw[h]at d o
   have a7:J ((ps.map (vK vD L)).map (fun p:Sg×SV=>p.2)) X:=ud q _ wr X (E W.1.size) N a0 (fun r e=>by cases e;exact⟨U _,_,D,rfl⟩)
   obtain⟨y,A⟩:∃y,(vK vD L e).2=y:=⟨_,rfl⟩
   have a5:Hid ((fun p:Sg×SV=>p.2) (vK vD L e)=y):=A
   rw[A]at d o
   have Z:=(R X.1.size X).alloc (U _) (.cells #[I O y.st,I O y.cl.cnt,I O y.cl.sum,I z6 y.cl.mn,I z6 y.cl.mx] 131)
   obtain⟨fn,tmps,assign,body,hy,hR⟩:=hY ((ps.map (vK vD L)).map (fun p:Sg×SV=>p.2)) y _ (zX (ud q) a7 Z) (by rw[List.length_map,List.length_map];have:=hC.lt i;omega)
   have K:=ze t
   have H:=ze s
   have HX:=ze B
   have a4:=ze D
   clear f hC he t s B w a2 Y hv hk a0 h D u i j ab A Z hJ Q
   gi_wp2
   refine hR.mono ?_
   rintro e3 W3 (⟨rfl,a6,z⟩|⟨rfl,S,z⟩)
   ·gi_wp2
    have a3:=z.high W.1.size _ (by omega) ((Below.heap_alloc _ _ _ (zd (ud K))).trans (ud K))
    have a8:=z.walk b _ ac ((Below.heap_alloc _ _ _ (zd (ud H))).trans (ud H)) rfl
    go_roundw
    case rel=>exact⟨_,_,ps++[e],a3,U _,a8,(ud HC).step (ud F),by rw[List.map_append,List.map_append,List.map_singleton,List.map_singleton,ud a5];exact a6⟩
    case measure=>rw[xy a3,xy (ud a4)];exact ya (ud F)
   ·gi_wp2
    refine bodyPost_ret (results_none rfl _ _ _) rfl ?_
    exact⟨⟨_,rfl⟩,.inr ⟨_,trivial,S⟩⟩
theorem zbW(b:Nat)(w:T):
  Calls prog 71 #[.map (E b)] w fun e w'=>e=.returned (.func (.func 125) #[] #[.pointer (E ⟨w.1.size,0,G⟩)])/\w'=w.alloc (.cells #[.map (E b)] 135):=by
 go_enter func71,ntmps71
 go_wp2_with fail
 go_ret
 exact⟨rfl,rfl⟩
theorem zeZ{ex:Nat->Prop}{n:Nat}(Bm b:Nat)(L:List (Sg×SV))(w:T)(e:¬ex b)(c:Bm<w.1.size)(o:w.cell? ⟨Bm,0,G⟩=E (.map (E b)))(a:xh vD w b L):
  jw ex n prog 125 #[.pointer (E ⟨Bm,0,G⟩)] (fun x:SV=>#[.agg #[I O x.st,I O x.cl.cnt,I O x.cl.sum,I z6 x.cl.mn,I z6 x.cl.mx]]) (fun xs=>∃ps:List (Sg×SV),ps.Perm L/\xs=ps.map (fun p:Sg×SV=>p.2)) L.length w:=
 fun m q l J h W g f j d k i=>zhD l Bm b L e J h W f j d k ((g.cell (p:=⟨Bm,0,G⟩) c).trans o) (a.later g) i
theorem zeJ:∀args w,(callFunc 125 args).run prog w=.ok (.enter 125 args) w:=enters_of func125 (by kernel_rfl) rfl
attribute [local go_sem] Oper.semAt_some
theorem zhC{α:Type}(s:α->Sg)(q:Sg->α){ex:Nat->Prop}{n m:Nat}(l Bm b:Nat)(L:List (Sg×SV))(ag:∀p∈L,s (q p.1)=p.1)(af:¬ex b)(J Jx:List α->T->Prop)(W:T)(ai:m<=W.1.size)(hJ:OwnFrom W.1.size J)(Z:OwnFrom W.1.size Jx)
  (hY:∀g x V,J g V->g.length<L.length->YieldAt Fence.wide 5 prog l #[.agg #[I O (s x).t,I O (s x).se,I O (s x).we]] V fun e V'=>(e=.returned (.bool true)/\J (g++[x]) V'/\KX ex n m V V')\/(e=.returned (.bool false)/\Jx (g++[x]) V'/\KX ex n m V V'))
  (hm:W.cell? ⟨Bm,0,G⟩=E (.map (E b))) (a5:xh vD W b L) (h0:J [] W):
  CallsIn Fence.wide 6 prog 192 #[.func (.yield l) #[] #[],.pointer (E ⟨Bm,0,G⟩)] W fun e W'=>(∃v,e=.returned v)/\
   ((∃xs,(∃ps:List (Sg×SV),ps.Perm L/\xs=ps.map (fun p:Sg×SV=>q p.1))/\J xs W')\/(∃g,True/\Jx g W')):=by
 obtain⟨k,a,hb,he⟩:=a5
 have ad:=zd hb
 have f:=run_range_map (P:=prog) W 135 _ _ b k a underlying135 hb
 have HE:=ze he
 have u:=ze hJ
 have ak:=he.count
 refine callsIn_of_wp func192 rfl trivial ?_ rfl
 simp only[ntmps192,List.size_toArray,List.length_cons,List.length_nil,Nat.reduceAdd,Nat.reduceSub,Array.replicate_succ,Array.replicate_zero,List.push_toArray,List.append_toArray,List.nil_append,List.cons_append]
 gi_wp2
 gi_loopw [3] (fun _ wr=>∃(c:Array Nat) (S:Nat) (ps:List MapEntry),wr.1[W.1.size]?=E (.mapIter (E b) a c S)/\a<=S/\wr.1[b]?=E (.map k a)/\zef k c ps/\J ((ps.map (vK vD L)).map (fun p:Sg×SV=>q p.1)) wr)
  (fun _ wr=>Zj k W.1.size wr)
 case atStart=>
  exact⟨#[],a,[],zo _ _,U _,(Below.heap_alloc _ _ _ ad).trans hb,⟨by simp,by simp,by simp⟩,zX (ud u) h0 ((R _ _).alloc (U _) _)⟩
 case round=>
  obtain⟨c,S,ps,K,ae,A,hC,Y⟩:=hrel
  have aj:=zd K
  have HC:=ze hC
  rcases run_next_at (P:=prog) wr 0 W.1.size b a S c k a K A (ud HE).born ae with⟨hz,d⟩|⟨e,i,w1,j,d⟩
  ·have HZ:=ze hz
   clear f hz hC he hJ Z
   gi_wp2
   go_end0
   exact⟨⟨_,rfl⟩,.inl ⟨_,⟨_,X9 Yk (ud HE) ((ud HC).all (ud HE).once (ud HZ)),rfl⟩,Y⟩⟩
  ·have M:=ze i
   obtain⟨B,_⟩:=xC.1 i
   have a6:w1.1[W.1.size]?=E (.mapIter (E b) a c S):=by rcases j with rfl|rfl<;>exact K
   have a1:w1.1[b]?=E (.map k a):=by rcases j with rfl|rfl<;>exact A
   have ah:b≠W.1.size:=by omega
   obtain⟨X,H⟩:∃X,setBlock w1 W.1.size (.mapIter (E b) a (c.push e.born) a)=X:=⟨_,rfl⟩
   have z:X.1[W.1.size]?=E (.mapIter (E b) a (c.push e.born) a):=by rw[<-H];exact xN (zd a6) _
   have w:X.1[b]?=E (.map k a):=by rw[<-H,xw ah];exact a1
   have a4:wr.grownBy X (E W.1.size):=by
    rw[<-H];rcases j with rfl|rfl
    ·exact xA _ _ _
    ·have:=xA wr.drew W.1.size (.mapIter (E b) a (c.push e.born) a)
     exact⟨this.os,this.tape,this.output,this.size,this.block⟩
   rw[H]at d
   have o:=run_entry_at (P:=prog) X W.1.size b a c k a e z w B (ud HE).once
   obtain⟨a3,hk,hv⟩:=XY Yk he B
   have h:e.key=vj (s (q (vK vD L e).1)):=by rw[ag _ a3];exact hk
   unfold vj at h
   rw[h]at d o
   have ab:J ((ps.map (vK vD L)).map (fun p:Sg×SV=>q p.1)) X:=ud u _ wr X (E W.1.size) Y a4 (fun r e=>by cases e;exact⟨U _,_,K,rfl⟩)
   obtain⟨y,F⟩:∃y,q (vK vD L e).1=y:=⟨_,rfl⟩
   have a9:Hid ((fun p:Sg×SV=>q p.1) (vK vD L e)=y):=F
   rw[F]at d o
   have a2:=(R X.1.size X).alloc (U _) (.cells #[I O (s y).t,I O (s y).se,I O (s y).we] 137)
   obtain⟨fn,tmps,assign,body,hy,hR⟩:=hY ((ps.map (vK vD L)).map (fun p:Sg×SV=>q p.1)) y _ (zX (ud u) ab a2) (by rw[List.length_map,List.length_map];have:=hC.lt i;omega)
   have Q:=ze z
   have N:=ze w
   have HX:=ze H
   have a8:=ze K
   clear f hC he z w H B a6 a1 hv hk a4 h K A i j a3 F a2 hJ Z
   gi_wp2
   refine hR.mono ?_
   rintro e3 W3 (⟨rfl,aa,D⟩|⟨rfl,a0,D⟩)
   ·gi_wp2
    have a7:=D.high W.1.size _ (by omega) ((Below.heap_alloc _ _ _ (zd (ud Q))).trans (ud Q))
    have ac:=D.walk b _ af ((Below.heap_alloc _ _ _ (zd (ud N))).trans (ud N)) rfl
    go_roundw
    case rel=>exact⟨_,_,ps++[e],a7,U _,ac,(ud HC).step (ud M),by rw[List.map_append,List.map_append,List.map_singleton,List.map_singleton,ud a9];exact aa⟩
    case measure=>rw[xy a7,xy (ud a8)];exact ya (ud M)
   ·gi_wp2
    refine bodyPost_ret (results_none rfl _ _ _) rfl ?_
    exact⟨⟨_,rfl⟩,.inr ⟨_,trivial,a0⟩⟩
theorem Vh(b:Nat)(w:T):
  Calls prog 145 #[.map (E b)] w fun e w'=>e=.returned (.func (.func 192) #[] #[.pointer (E ⟨w.1.size,0,G⟩)])/\w'=w.alloc (.cells #[.map (E b)] 135):=by
 go_enter func145,ntmps145
 go_wp2_with fail
 go_ret
 exact⟨rfl,rfl⟩
theorem zaR{α:Type}(c:α->Sg)(i:Sg->α){ex:Nat->Prop}{n:Nat}(Bm b:Nat)(L:List (Sg×SV))(h:∀p∈L,c (i p.1)=p.1)(w:T)(f:¬ex b)(d:Bm<w.1.size)(s:w.cell? ⟨Bm,0,G⟩=E (.map (E b)))(a:xh vD w b L):
  jw ex n prog 192 #[.pointer (E ⟨Bm,0,G⟩)] (fun x:α=>#[.agg #[I O (c x).t,I O (c x).se,I O (c x).we]]) (fun xs=>∃ps:List (Sg×SV),ps.Perm L/\xs=ps.map (fun p:Sg×SV=>i p.1)) L.length w:=
 fun m u l J k W j g q e r o=>zhC c i l Bm b L h f J k W g q e r ((j.cell (p:=⟨Bm,0,G⟩) d).trans s) (a.later j) o
theorem zaM:∀args w,(callFunc 192 args).run prog w=.ok (.enter 192 args) w:=enters_of func192 (by kernel_rfl) rfl
attribute [local go_sem] Oper.semAt_some
theorem zjq{ex:Nat->Prop}{n m:Nat}(l Bm b:Nat)(L:List (Tok×Lse))(ae:¬ex b)(J Jx:List Lse->T->Prop)(W:T)(ag:m<=W.1.size)(hJ:OwnFrom W.1.size J)(Y:OwnFrom W.1.size Jx)
  (hY:∀g x V,J g V->g.length<L.length->YieldAt Fence.wide 5 prog l #[.agg #[I O x.kd,I O x.s.t,I O x.s.se,I O x.s.we,I O x.slot,I O x.til]] V fun e V'=>(e=.returned (.bool true)/\J (g++[x]) V'/\KX ex n m V V')\/(e=.returned (.bool false)/\Jx (g++[x]) V'/\KX ex n m V V'))
  (hm:W.cell? ⟨Bm,0,G⟩=E (.map (E b))) (a3:xh xz W b L) (h0:J [] W):
  CallsIn Fence.wide 6 prog 131 #[.func (.yield l) #[] #[],.pointer (E ⟨Bm,0,G⟩)] W fun e W'=>(∃v,e=.returned v)/\
   ((∃xs,(∃ps:List (Tok×Lse),ps.Perm L/\xs=ps.map (fun p:Tok×Lse=>p.2))/\J xs W')\/(∃g,True/\Jx g W')):=by
 obtain⟨k,a,hb,he⟩:=a3
 have ab:=zd hb
 have f:=run_range_map (P:=prog) W 153 _ _ b k a underlying153 hb
 have HE:=ze he
 have q:=ze hJ
 have ai:=he.count
 refine callsIn_of_wp func131 rfl trivial ?_ rfl
 simp only[ntmps131,List.size_toArray,List.length_cons,List.length_nil,Nat.reduceAdd,Nat.reduceSub,Array.replicate_succ,Array.replicate_zero,List.push_toArray,List.append_toArray,List.nil_append,List.cons_append]
 gi_wp2
 gi_loopw [4] (fun _ wr=>∃(c:Array Nat) (Q:Nat) (ps:List MapEntry),wr.1[W.1.size]?=E (.mapIter (E b) a c Q)/\a<=Q/\wr.1[b]?=E (.map k a)/\zef k c ps/\J ((ps.map (vK xz L)).map (fun p:Tok×Lse=>p.2)) wr)
  (fun _ wr=>Zj k W.1.size wr)
 case atStart=>
  exact⟨#[],a,[],zo _ _,U _,(Below.heap_alloc _ _ _ ab).trans hb,⟨by simp,by simp,by simp⟩,zX (ud q) h0 ((R _ _).alloc (U _) _)⟩
 case round=>
  obtain⟨c,Q,ps,H,ac,z,hC,S⟩:=hrel
  have ah:=zd H
  have HC:=ze hC
  rcases run_next_at (P:=prog) wr 0 W.1.size b a Q c k a H z (ud HE).born ac with⟨hz,d⟩|⟨e,i,w1,j,d⟩
  ·have HZ:=ze hz
   clear f hz hC he hJ Y
   gi_wp2
   go_end0
   exact⟨⟨_,rfl⟩,.inl ⟨_,⟨_,X9 qZ (ud HE) ((ud HC).all (ud HE).once (ud HZ)),rfl⟩,S⟩⟩
  ·have K:=ze i
   obtain⟨A,_⟩:=xC.1 i
   have a4:w1.1[W.1.size]?=E (.mapIter (E b) a c Q):=by rcases j with rfl|rfl<;>exact H
   have a0:w1.1[b]?=E (.map k a):=by rcases j with rfl|rfl<;>exact z
   have af:b≠W.1.size:=by omega
   obtain⟨X,F⟩:∃X,setBlock w1 W.1.size (.mapIter (E b) a (c.push e.born) a)=X:=⟨_,rfl⟩
   have w:X.1[W.1.size]?=E (.mapIter (E b) a (c.push e.born) a):=by rw[<-F];exact xN (zd a4) _
   have u:X.1[b]?=E (.map k a):=by rw[<-F,xw af];exact a0
   have a2:wr.grownBy X (E W.1.size):=by
    rw[<-F];rcases j with rfl|rfl
    ·exact xA _ _ _
    ·have:=xA wr.drew W.1.size (.mapIter (E b) a (c.push e.born) a)
     exact⟨this.os,this.tape,this.output,this.size,this.block⟩
   rw[F]at d
   have o:=run_entry_at (P:=prog) X W.1.size b a c k a e w u A (ud HE).once
   obtain⟨ad,hk,hv⟩:=XY qZ he A
   have h:e.val=kZ ((vK xz L e).2):=hv
   unfold kZ at h
   rw[h]at d o
   have a9:J ((ps.map (vK xz L)).map (fun p:Tok×Lse=>p.2)) X:=ud q _ wr X (E W.1.size) S a2 (fun r e=>by cases e;exact⟨U _,_,H,rfl⟩)
   obtain⟨y,D⟩:∃y,(vK xz L e).2=y:=⟨_,rfl⟩
   have a7:Hid ((fun p:Tok×Lse=>p.2) (vK xz L e)=y):=D
   rw[D]at d o
   have a1:=(R X.1.size X).alloc (U _) (.cells #[I O y.kd,I O y.s.t,I O y.s.se,I O y.s.we,I O y.slot,I O y.til] 149)
   obtain⟨fn,tmps,assign,body,hy,hR⟩:=hY ((ps.map (vK xz L)).map (fun p:Tok×Lse=>p.2)) y _ (zX (ud q) a9 a1) (by rw[List.length_map,List.length_map];have:=hC.lt i;omega)
   have N:=ze w
   have M:=ze u
   have HX:=ze F
   have a6:=ze H
   clear f hC he w u F A a4 a0 hv hk a2 h H z i j ad D a1 hJ Y
   gi_wp2
   refine hR.mono ?_
   rintro e3 W3 (⟨rfl,a8,B⟩|⟨rfl,Z,B⟩)
   ·gi_wp2
    have a5:=B.high W.1.size _ (by omega) ((Below.heap_alloc _ _ _ (zd (ud N))).trans (ud N))
    have aa:=B.walk b _ ae ((Below.heap_alloc _ _ _ (zd (ud M))).trans (ud M)) rfl
    go_roundw
    case rel=>exact⟨_,_,ps++[e],a5,U _,aa,(ud HC).step (ud K),by rw[List.map_append,List.map_append,List.map_singleton,List.map_singleton,ud a7];exact a8⟩
    case measure=>rw[xy a5,xy (ud a6)];exact ya (ud K)
   ·gi_wp2
    refine bodyPost_ret (results_none rfl _ _ _) rfl ?_
    exact⟨⟨_,rfl⟩,.inr ⟨_,trivial,Z⟩⟩
theorem zfa(b:Nat)(w:T):
  Calls prog 79 #[.map (E b)] w fun e w'=>e=.returned (.func (.func 131) #[] #[.pointer (E ⟨w.1.size,0,G⟩)])/\w'=w.alloc (.cells #[.map (E b)] 153):=by
 go_enter func79,ntmps79
 go_wp2_with fail
 go_ret
 exact⟨rfl,rfl⟩
theorem ziG{ex:Nat->Prop}{n:Nat}(Bm b:Nat)(L:List (Tok×Lse))(w:T)(e:¬ex b)(c:Bm<w.1.size)(o:w.cell? ⟨Bm,0,G⟩=E (.map (E b)))(a:xh xz w b L):
  jw ex n prog 131 #[.pointer (E ⟨Bm,0,G⟩)] (fun x:Lse=>#[.agg #[I O x.kd,I O x.s.t,I O x.s.se,I O x.s.we,I O x.slot,I O x.til]]) (fun xs=>∃ps:List (Tok×Lse),ps.Perm L/\xs=ps.map (fun p:Tok×Lse=>p.2)) L.length w:=
 fun m q l J h W g f j d k i=>zjq l Bm b L e J h W f j d k ((g.cell (p:=⟨Bm,0,G⟩) c).trans o) (a.later g) i
theorem ziD:∀args w,(callFunc 131 args).run prog w=.ok (.enter 131 args) w:=enters_of func131 (by kernel_rfl) rfl
attribute [local go_sem] Oper.semAt_some
theorem zjr{α:Type}(f:α->Tsk)(u:Tsk->α){ex:Nat->Prop}{n m:Nat}(l Bm b:Nat)(L:List (Jk×Tsk))(ah:∀p∈L,f (u p.2)=p.2)(ag:¬ex b)(J Jx:List α->T->Prop)(W:T)(aj:m<=W.1.size)(hJ:OwnFrom W.1.size J)(a0:OwnFrom W.1.size Jx)
  (hY:∀h x V,J h V->h.length<L.length->YieldAt Fence.wide 5 prog l #[.agg #[.iface (f x).jt (.agg #[I O (f x).s.t,I O (f x).s.se,I O (f x).s.we]),I O (f x).si,I O (f x).tc,I O (f x).rest]] V fun e V'=>(e=.returned (.bool true)/\J (h++[x]) V'/\KX ex n m V V')\/(e=.returned (.bool false)/\Jx (h++[x]) V'/\KX ex n m V V'))
  (hm:W.cell? ⟨Bm,0,G⟩=E (.map (E b))) (a6:xh xO W b L) (h0:J [] W):
  CallsIn Fence.wide 6 prog 133 #[.func (.yield l) #[] #[],.pointer (E ⟨Bm,0,G⟩)] W fun e W'=>(∃v,e=.returned v)/\
   ((∃xs,(∃ps:List (Jk×Tsk),ps.Perm L/\xs=ps.map (fun p:Jk×Tsk=>u p.2))/\J xs W')\/(∃h,True/\Jx h W')):=by
 obtain⟨o,a,hb,he⟩:=a6
 have ae:=zd hb
 have g:=run_range_map (P:=prog) W 154 _ _ b o a underlying154 hb
 have HE:=ze he
 have w:=ze hJ
 have al:=he.count
 refine callsIn_of_wp func133 rfl trivial ?_ rfl
 simp only[ntmps133,List.size_toArray,List.length_cons,List.length_nil,Nat.reduceAdd,Nat.reduceSub,Array.replicate_succ,Array.replicate_zero,List.push_toArray,List.append_toArray,List.nil_append,List.cons_append]
 gi_wp2
 gi_loopw [4] (fun _ wr=>∃(c:Array Nat) (Y:Nat) (ps:List MapEntry),wr.1[W.1.size]?=E (.mapIter (E b) a c Y)/\a<=Y/\wr.1[b]?=E (.map o a)/\zef o c ps/\J ((ps.map (vK xO L)).map (fun p:Jk×Tsk=>u p.2)) wr)
  (fun _ wr=>Zj o W.1.size wr)
 case atStart=>
  exact⟨#[],a,[],zo _ _,U _,(Below.heap_alloc _ _ _ ae).trans hb,⟨by simp,by simp,by simp⟩,zX (ud w) h0 ((R _ _).alloc (U _) _)⟩
 case round=>
  obtain⟨c,Y,ps,M,af,B,hC,Z⟩:=hrel
  have ak:=zd M
  have HC:=ze hC
  rcases run_next_at (P:=prog) wr 0 W.1.size b a Y c o a M B (ud HE).born af with⟨hz,d⟩|⟨e,j,w1,k,d⟩
  ·have HZ:=ze hz
   clear g hz hC he hJ a0
   gi_wp2
   go_end0
   exact⟨⟨_,rfl⟩,.inl ⟨_,⟨_,X9 yL (ud HE) ((ud HC).all (ud HE).once (ud HZ)),rfl⟩,Z⟩⟩
  ·have N:=ze j
   obtain⟨D,_⟩:=xC.1 j
   have a7:w1.1[W.1.size]?=E (.mapIter (E b) a c Y):=by rcases k with rfl|rfl<;>exact M
   have a2:w1.1[b]?=E (.map o a):=by rcases k with rfl|rfl<;>exact B
   have ai:b≠W.1.size:=by omega
   obtain⟨X,K⟩:∃X,setBlock w1 W.1.size (.mapIter (E b) a (c.push e.born) a)=X:=⟨_,rfl⟩
   have A:X.1[W.1.size]?=E (.mapIter (E b) a (c.push e.born) a):=by rw[<-K];exact xN (zd a7) _
   have z:X.1[b]?=E (.map o a):=by rw[<-K,xw ai];exact a2
   have a5:wr.grownBy X (E W.1.size):=by
    rw[<-K];rcases k with rfl|rfl
    ·exact xA _ _ _
    ·have:=xA wr.drew W.1.size (.mapIter (E b) a (c.push e.born) a)
     exact⟨this.os,this.tape,this.output,this.size,this.block⟩
   rw[K]at d
   have q:=run_entry_at (P:=prog) X W.1.size b a c o a e A z D (ud HE).once
   obtain⟨a4,hk,hv⟩:=XY yL he D
   have i:e.val=Xp (f (u (vK xO L e).2)):=by rw[ah _ a4];exact hv
   unfold Xp at i
   rw[i]at d q
   have ac:J ((ps.map (vK xO L)).map (fun p:Jk×Tsk=>u p.2)) X:=ud w _ wr X (E W.1.size) Z a5 (fun r e=>by cases e;exact⟨U _,_,M,rfl⟩)
   obtain⟨y,H⟩:∃y,u (vK xO L e).2=y:=⟨_,rfl⟩
   have aa:Hid ((fun p:Jk×Tsk=>u p.2) (vK xO L e)=y):=H
   rw[H]at d q
   have a3:=(R X.1.size X).alloc (U _) (.cells #[.iface (f y).jt (.agg #[I O (f y).s.t,I O (f y).s.se,I O (f y).s.we]),I O (f y).si,I O (f y).tc,I O (f y).rest] 162)
   obtain⟨fn,tmps,assign,body,hy,hR⟩:=hY ((ps.map (vK xO L)).map (fun p:Jk×Tsk=>u p.2)) y _ (zX (ud w) ac a3) (by rw[List.length_map,List.length_map];have:=hC.lt j;omega)
   have S:=ze A
   have Q:=ze z
   have HX:=ze K
   have a9:=ze M
   clear g hC he A z K D a7 a2 hv hk a5 i M B j k a4 H a3 hJ a0
   gi_wp2
   refine hR.mono ?_
   rintro e3 W3 (⟨rfl,ab,F⟩|⟨rfl,a1,F⟩)
   ·gi_wp2
    have a8:=F.high W.1.size _ (by omega) ((Below.heap_alloc _ _ _ (zd (ud S))).trans (ud S))
    have ad:=F.walk b _ ag ((Below.heap_alloc _ _ _ (zd (ud Q))).trans (ud Q)) rfl
    go_roundw
    case rel=>exact⟨_,_,ps++[e],a8,U _,ad,(ud HC).step (ud N),by rw[List.map_append,List.map_append,List.map_singleton,List.map_singleton,ud aa];exact ab⟩
    case measure=>rw[xy a8,xy (ud a9)];exact ya (ud N)
   ·gi_wp2
    refine bodyPost_ret (results_none rfl _ _ _) rfl ?_
    exact⟨⟨_,rfl⟩,.inr ⟨_,trivial,a1⟩⟩
theorem zfb(b:Nat)(w:T):
  Calls prog 82 #[.map (E b)] w fun e w'=>e=.returned (.func (.func 133) #[] #[.pointer (E ⟨w.1.size,0,G⟩)])/\w'=w.alloc (.cells #[.map (E b)] 154):=by
 go_enter func82,ntmps82
 go_wp2_with fail
 go_ret
 exact⟨rfl,rfl⟩
theorem zkI{α:Type}(a:α->Tsk)(i:Tsk->α){ex:Nat->Prop}{n:Nat}(Bm b:Nat)(L:List (Jk×Tsk))(h:∀p∈L,a (i p.2)=p.2)(w:T)(f:¬ex b)(d:Bm<w.1.size)(u:w.cell? ⟨Bm,0,G⟩=E (.map (E b)))(c:xh xO w b L):
  jw ex n prog 133 #[.pointer (E ⟨Bm,0,G⟩)] (fun x:α=>#[.agg #[.iface (a x).jt (.agg #[I O (a x).s.t,I O (a x).s.se,I O (a x).s.we]),I O (a x).si,I O (a x).tc,I O (a x).rest]]) (fun xs=>∃ps:List (Jk×Tsk),ps.Perm L/\xs=ps.map (fun p:Jk×Tsk=>i p.2)) L.length w:=
 fun m v l J k W j g q e r o=>zjr a i l Bm b L h f J k W g q e r ((j.cell (p:=⟨Bm,0,G⟩) d).trans u) (c.later j) o
theorem ziE:∀args w,(callFunc 133 args).run prog w=.ok (.enter 133 args) w:=enters_of func133 (by kernel_rfl) rfl
attribute [local go_sem] Oper.semAt_some
theorem zhE{α:Type}(f:α->Tsk)(o:Tsk->α)(l Bm b:Nat)(L:List (Jk×Tsk))(ae:∀p∈L,f (o p.2)=p.2)(J Jx:List α->T->Prop)(W:T)(hJ:OwnFrom W.1.size J)(Y:OwnFrom W.1.size Jx)
  (hY:∀h x V,J h V->h.length<L.length->YieldAt Fence.wide 5 prog l #[.agg #[.iface (f x).jt (.agg #[I O (f x).s.t,I O (f x).s.se,I O (f x).s.we]),I O (f x).si,I O (f x).tc,I O (f x).rest]] V fun e V'=>(e=.returned (.bool true)/\J (h++[x]) V'/\KeepsWalks V V')\/(e=.returned (.bool false)/\Jx (h++[x]) V'/\KeepsWalks V V'))
  (hm:W.cell? ⟨Bm,0,G⟩=E (.map (E b))) (a4:xh xO W b L) (h0:J [] W):
  CallsIn Fence.wide 6 prog 133 #[.func (.yield l) #[] #[],.pointer (E ⟨Bm,0,G⟩)] W fun e W'=>(∃v,e=.returned v)/\
   ((∃xs,(∃ps:List (Jk×Tsk),ps.Perm L/\xs=ps.map (fun p:Jk×Tsk=>o p.2))/\J xs W')\/(∃h,True/\Jx h W')):=by
 obtain⟨m,a,hb,he⟩:=a4
 have ac:=zd hb
 have g:=run_range_map (P:=prog) W 154 _ _ b m a underlying154 hb
 have HE:=ze he
 have q:=ze hJ
 have ah:=he.count
 refine callsIn_of_wp func133 rfl trivial ?_ rfl
 simp only[ntmps133,List.size_toArray,List.length_cons,List.length_nil,Nat.reduceAdd,Nat.reduceSub,Array.replicate_succ,Array.replicate_zero,List.push_toArray,List.append_toArray,List.nil_append,List.cons_append]
 gi_wp2
 gi_loopw [4] (fun _ wr=>∃(c:Array Nat) (Q:Nat) (ps:List MapEntry),wr.1[W.1.size]?=E (.mapIter (E b) a c Q)/\a<=Q/\wr.1[b]?=E (.map m a)/\zef m c ps/\J ((ps.map (vK xO L)).map (fun p:Jk×Tsk=>o p.2)) wr)
  (fun _ wr=>Zj m W.1.size wr)
 case atStart=>
  exact⟨#[],a,[],zo _ _,U _,(Below.heap_alloc _ _ _ ac).trans hb,⟨by simp,by simp,by simp⟩,zX (ud q) h0 ((R _ _).alloc (U _) _)⟩
 case round=>
  obtain⟨c,Q,ps,H,ad,z,hC,S⟩:=hrel
  have ag:=zd H
  have HC:=ze hC
  rcases run_next_at (P:=prog) wr 0 W.1.size b a Q c m a H z (ud HE).born ad with⟨hz,d⟩|⟨e,j,w1,k,d⟩
  ·have HZ:=ze hz
   clear g hz hC he hJ Y
   gi_wp2
   go_end0
   exact⟨⟨_,rfl⟩,.inl ⟨_,⟨_,X9 yL (ud HE) ((ud HC).all (ud HE).once (ud HZ)),rfl⟩,S⟩⟩
  ·have K:=ze j
   obtain⟨A,_⟩:=xC.1 j
   have a5:w1.1[W.1.size]?=E (.mapIter (E b) a c Q):=by rcases k with rfl|rfl<;>exact H
   have a0:w1.1[b]?=E (.map m a):=by rcases k with rfl|rfl<;>exact z
   have af:b≠W.1.size:=by omega
   obtain⟨X,F⟩:∃X,setBlock w1 W.1.size (.mapIter (E b) a (c.push e.born) a)=X:=⟨_,rfl⟩
   have w:X.1[W.1.size]?=E (.mapIter (E b) a (c.push e.born) a):=by rw[<-F];exact xN (zd a5) _
   have u:X.1[b]?=E (.map m a):=by rw[<-F,xw af];exact a0
   have a3:wr.grownBy X (E W.1.size):=by
    rw[<-F];rcases k with rfl|rfl
    ·exact xA _ _ _
    ·have:=xA wr.drew W.1.size (.mapIter (E b) a (c.push e.born) a)
     exact⟨this.os,this.tape,this.output,this.size,this.block⟩
   rw[F]at d
   have n:=run_entry_at (P:=prog) X W.1.size b a c m a e w u A (ud HE).once
   obtain⟨a2,hk,hv⟩:=XY yL he A
   have i:e.val=Xp (f (o (vK xO L e).2)):=by rw[ae _ a2];exact hv
   unfold Xp at i
   rw[i]at d n
   have aa:J ((ps.map (vK xO L)).map (fun p:Jk×Tsk=>o p.2)) X:=ud q _ wr X (E W.1.size) S a3 (fun r e=>by cases e;exact⟨U _,_,H,rfl⟩)
   obtain⟨y,D⟩:∃y,o (vK xO L e).2=y:=⟨_,rfl⟩
   have a8:Hid ((fun p:Jk×Tsk=>o p.2) (vK xO L e)=y):=D
   rw[D]at d n
   have a1:=(R X.1.size X).alloc (U _) (.cells #[.iface (f y).jt (.agg #[I O (f y).s.t,I O (f y).s.se,I O (f y).s.we]),I O (f y).si,I O (f y).tc,I O (f y).rest] 162)
   obtain⟨fn,tmps,assign,body,hy,hR⟩:=hY ((ps.map (vK xO L)).map (fun p:Jk×Tsk=>o p.2)) y _ (zX (ud q) aa a1) (by rw[List.length_map,List.length_map];have:=hC.lt j;omega)
   have N:=ze w
   have M:=ze u
   have HX:=ze F
   have a7:=ze H
   clear g hC he w u F A a5 a0 hv hk a3 i H z j k a2 D a1 hJ Y
   gi_wp2
   refine hR.mono ?_
   rintro e3 W3 (⟨rfl,a9,B⟩|⟨rfl,Z,B⟩)
   ·gi_wp2
    have a6:=B.same W.1.size _ ((Below.heap_alloc _ _ _ (zd (ud N))).trans (ud N)) rfl
    have ab:=B.same b _ ((Below.heap_alloc _ _ _ (zd (ud M))).trans (ud M)) rfl
    go_roundw
    case rel=>exact⟨_,_,ps++[e],a6,U _,ab,(ud HC).step (ud K),by rw[List.map_append,List.map_append,List.map_singleton,List.map_singleton,ud a8];exact a9⟩
    case measure=>rw[xy a6,xy (ud a7)];exact ya (ud K)
   ·gi_wp2
    refine bodyPost_ret (results_none rfl _ _ _) rfl ?_
    exact⟨⟨_,rfl⟩,.inr ⟨_,trivial,Z⟩⟩
theorem zjs{α:Type}(a:α->Tsk)(g:Tsk->α)(Bm b:Nat)(L:List (Jk×Tsk))(f:∀p∈L,a (g p.2)=p.2)(w:T)(d:Bm<w.1.size)(n:w.cell? ⟨Bm,0,G⟩=E (.map (E b)))(c:xh xO w b L):
  YK Fence.wide 6 prog 133 #[.pointer (E ⟨Bm,0,G⟩)] (fun x:α=>#[.agg #[.iface (a x).jt (.agg #[I O (a x).s.t,I O (a x).s.se,I O (a x).s.we]),I O (a x).si,I O (a x).tc,I O (a x).rest]]) KeepsWalks (fun xs=>∃ps:List (Jk×Tsk),ps.Perm L/\xs=ps.map (fun p:Jk×Tsk=>g p.2)) (fun _=>True) L.length 0 w:=
 fun l J i W h _ k e m j=>zhE a g l Bm b L f J i W k e m ((h.cell (p:=⟨Bm,0,G⟩) d).trans n) (c.later h) j
def YX(x:Tsk):List z5:=[.iface x.jt (.agg #[I O x.s.t,I O x.s.se,I O x.s.we]),I O x.si,I O x.tc,I O x.rest]
theorem VR(x:Tsk):(YX x).length=4:=rfl
theorem zcD(x:Tsk):∀v∈YX x,v.oneCell'=true:=fun v hv=>by
 simp only[YX,List.mem_cons,List.not_mem_nil,or_false]at hv
 rcases hv with rfl|rfl|rfl|rfl<;>rfl
theorem zcf{W b:T}{row:Option Nat}{base:Nat}{e:TypeId}{size:Nat}{v:z5}{k:Nat}{xs:List z5}(h:W.ownsRow base e size v k xs)(i:W.grownBy b row)(j:∀r,row=E r->∃o:Obj,W.1[r]?=E o/\o.isCells=false):b.ownsRow base e size v k xs:=by
 refine h.kept i ?_
 rcases h.2 with⟨rfl,_⟩|⟨g,cap,d,rfl,_,a,_⟩
 ·exact .inl rfl
 ·refine .inr fun f=>?_
  obtain⟨o,c,l⟩:=j g (by simpa[Value.ownBlock]using f.symm)
  rw[a]at c;cases c;cases l
attribute [local go_sem] Oper.semAt_some
theorem zhh:(prog.info? 162).map (fun i=>(i.zero,i.size,i.bytes))=E (E (.agg #[.nilIface,I O 0,I O 0,I O 0]),4,40):=by kernel_rfl
theorem ziV:∃i:TypeInfo,prog.info? 162=E i/\i.zero=E (.agg #[.nilIface,I O 0,I O 0,I O 0])/\i.size=4/\i.bytes=40:=by
 have h:=zhh
 cases a:prog.info? 162 with
 |none=>simp[a]at h
 |some i=>
  simp only[a,Option.map_some,Option.some.injEq,Prod.mk.injEq]at h
  exact⟨i,rfl,h.1,h.2.1,h.2.2⟩
def apI(w:T)(a:List Tsk)(W:T):Prop:=∃v,W.1[w.1.size]?=E (.cells #[v] 171 (0,0))/\W.ownsRow w.1.size 162 4 v a.length (a.flatMap YX)/\C w.1.size w W
theorem apI.later{w:T}{a:List Tsk}{W c:T}(h:apI w a W)(b:C W.1.size W c):apI w a c:=by
 obtain⟨v,d,i,g⟩:=h
 exact⟨v,(b.block _ (zd d)).trans d,zi i (zk.of_below (f:=fun _=>False) b) (fun _ _ e=>e),g.trans (b.mono g.size)⟩
theorem zcV{W c:T}{base:Nat}{e:TypeId}{size:Nat}{v:z5}{n:Nat}{xs:List z5}(i:W.ownsRow base e size v n xs)(d:W.grownBy c v.ownBlock)(B:Nat):KeepsFrom B W c/\KeepsWalks W c:=by
 have key:∀(k:Nat) (o:Obj),W.1[k]?=E o->o.isCells=false->c.1[k]?=E o:=fun k o a b=>(d.block k (zd a) (fun e=>by
  rcases i.2 with⟨rfl,_⟩|⟨g,cap,h,rfl,_,f,_⟩
  ·simp[Value.ownBlock]at e
  ·have:k=g:=by simpa[Value.ownBlock]using e
   subst this;rw[f]at a;cases a;cases b)).trans a
 exact⟨⟨d.size,fun k o _ a b=>key k o a b⟩,⟨d.size,fun k o a b=>key k o a (Obj.not_cells_of_walk b)⟩⟩
theorem zdC{F:Fence}{n:Nat}{W:T}{ops:Array Oper}{rest:List Oper}{o:Oper}{a:Act}{Q:Exit->Act->T->Prop}(p:o.guard=G)(s x:Operand)
  (D:o.op=.call {callee:=.builtin .append,args:=#[s,x],argTypes:=#[171,171]}) (base:Nat) (v:z5) (l:List Tsk) (f:Tsk) (H:a.eval s=v) (i:W.ownsRow base 162 4 v l.length (l.flatMap YX))
  (j:Nat) (J:a.eval x=.slice (E ⟨j,0,G⟩) 1 1) (k:W.1[j]?=E (.cells #[.iface f.jt (.agg #[I O f.s.t,I O f.s.se,I O f.s.we]),I O f.si,I O f.tc,I O f.rest] 162 (0,0))) (M:l.length<=1000000) (c:base<=W.1.size)
  (h:∀g cap w',w'.ownsRow base 162 4 (.slice (E ⟨g,0,G⟩) (l.length+1) cap) (l++[f]).length ((l++[f]).flatMap YX)->W.grownBy w' v.ownBlock->g<w'.1.size->wpListIn F n prog ops Q rest (a.put o.dst (.slice (E ⟨g,0,G⟩) (l.length+1) cap)) w'):wpListIn F n prog ops Q (o::rest) a W:=by
 obtain⟨K,B,q,r,u⟩:=ziV
 refine wpListIn_append_own_at W p s x 171 D base 162 K (.agg #[.nilIface,I O 0,I O 0,I O 0]) 4 40 underlying171 B q r u rfl (by decide) v l.length _ H i ⟨j,0,G⟩ 1 1 (YX f) J rfl (World.news_of_block (cs:=(YX f).toArray) k) (zcD f) (by simp only[maxLen];omega) (by omega) c ?_
 intro N L b m w z
 obtain⟨A,d,rfl,y,e⟩:=b.form (by omega)
 exact h A d L (Qx b) m e
theorem zeu(gf:Nat)(lb:Array z5)(eg:∀args w,(callFunc gf args).run prog w=.ok (.enter gf args) w){N:Nat}{S:List Tsk->Prop}(w:T)(hN:N<=1000000)
  (q:YK Fence.wide 6 prog gf lb (fun x:Tsk=>#[.agg #[.iface x.jt (.agg #[I O x.s.t,I O x.s.se,I O x.s.we]),I O x.si,I O x.tc,I O x.rest]]) KeepsWalks S (fun _=>True) N 0 w):
  Calls prog 178 #[.slice G 0 0,.func (.func gf) #[] lb] w fun e w'=>∃xs v,S xs/\e=.returned v/\w'.ownsRow w.1.size 162 4 v xs.length (xs.flatMap YX)/\C w.1.size w w':=by
 have Q:=ze q
 have a2:=ze eg
 have b1:=zo w (.cells #[.slice G 0 0] 171)
 have bz:=zF w (.cells #[.slice G 0 0] 171)
 have a0:C w.1.size w (w.alloc (.cells #[.slice G 0 0] 171)):=(R _ _).alloc (U _) _
 clear q eg
 refine(callsIn_wide (n:=7)).1 ?_
 refine callsIn_of_wp_marks func178 rfl trivial ?_ rfl
 simp only[ntmps178,List.size_toArray,List.length_cons,List.length_nil,Nat.reduceAdd,Nat.reduceSub,Array.replicate_succ,Array.replicate_zero,List.push_toArray,List.append_toArray,List.nil_append,List.cons_append]
 have B1:=ze b1
 have u:=ze a0
 have BZ:=ze bz
 clear b1 a0 bz
 gi_wp2
 obtain⟨W0,Z⟩:∃W0,(w.alloc (.cells #[.slice G 0 0] 171))=W0:=⟨_,rfl⟩
 rw[Z]at B1 u BZ ⊢
 clear Z
 have hz:W0.1.size=w.1.size+1:=ud BZ
 refine yG (F:=Fence.wide) (n:=7) rfl (by omega) (gf:=gf) (lb:=lb) rfl trivial (ud a2) (ud Q) (by omega) (fun h k=>h.trans k) (fun W o o' h hc hw=>KeepsWalks.putObj _ h hw) (ud u) (fun _=>rfl)
  (apI w) (fun _ _ _=>False)
  (fun s A B row hs z H=>by
   obtain⟨v,X,h2,Y⟩:=hs
   exact⟨v,zG X z (fun r e=>(H r e).2),zcf h2 z (fun r e=>(H r e).2),Y.grown z Y.size (fun k e=>by have:=(H k e).1;omega)⟩)
  (fun _ _ _ _ _ hs _ _=>hs)
  ⟨_,ud B1,⟨rfl,.inl ⟨rfl,rfl⟩⟩,ud u⟩
  (fun x a' W=>∃J,w.1.size+1<=J/\W.1[J]?=E (.cells #[.iface x.jt (.agg #[I O x.s.t,I O x.s.se,I O x.s.we]),I O x.si,I O x.tc,I O x.rest] 162 (0,0))/\a'={tmps:=#[.slice G 0 0,.func (.func gf) #[] lb,.pointer (E ⟨w.1.size,0,G⟩),undef,.slice G 0 0,.pointer (E ⟨J,0,G⟩),.func (.func gf) #[] lb,.agg #[.iface x.jt (.agg #[I O x.s.t,I O x.s.se,I O x.s.we]),I O x.si,I O x.tc,I O x.rest],undef,undef,undef,undef,undef],defers:=[]})
  (fun x a' s A B row hs z H=>by
   obtain⟨J,X,h2,Y⟩:=hs
   exact⟨J,X,zG h2 z (fun r e=>(H r e).2),Y⟩) ?assign ?body ?done ?stop
 case assign=>
  rintro l d x W K hI L
  have HK:=ze L
  have HI:=ze hI
  clear L hI
  gi_wp2
  have g:=(R W.1.size W).alloc (U _) (.cells #[.iface x.jt (.agg #[I O x.s.t,I O x.s.se,I O x.s.we]),I O x.si,I O x.tc,I O x.rest] 162)
  have ae:w.1.size<W.1.size:=by obtain⟨v,X,h2,Y⟩:=ud HI;exact zd X
  exact ud HK _ _ (zu g) (KeepsWalks.alloc _ _) ((ud HI).later g) ⟨W.1.size,by omega,zo _ _,rfl⟩
 case body=>
  rintro l d x a' W hl ⟨r,H⟩ ⟨v,i1,i2,i3⟩ ⟨J,ac,hx,rfl⟩ ad
  obtain⟨va,vc,rfl⟩:=zq i2
  have a8:=zd i1
  have af:=zd hx
  obtain⟨c1,-⟩:=zc i1
  obtain⟨x0,x1,x2,x3,-⟩:=zc hx
  have P:=ze i1
  have a:=ze i2
  have y:=ze i3
  have HX:=ze hx
  clear i1 i2 i3 hx H
  gi_wp2_with (first
   |(gi_at_builtin;refine zdC rfl _ _ rfl w.1.size _ d x rfl ((ud a).alloc _) W.1.size rfl (zo _ _) (by omega) (by rw[zF];omega) ?_;intro g' a9 w3 b j aa
     have a1:=zcV ((ud a).alloc (.cells #[.iface x.jt (.agg #[I O x.s.t,I O x.s.se,I O x.s.we]),I O x.si,I O x.tc,I O x.rest] 162)) j W0.1.size
     have V:w3.1[w.1.size]?=E (.cells #[.slice va d.length vc] 171 (0,0)):=(j.block w.1.size (by rw[zF];omega) (fun e=>zt (ud P) (ud a) (by decide) w.1.size e.symm rfl)).trans ((Below.heap_alloc _ _ _ a8).trans (ud P))
     obtain⟨d1,-⟩:=zc V
     have f1:w3.frozen? ⟨w.1.size,0,G⟩=false:=zD V 0
     have ab:=zd V
     have a5:=ze b
     have a3:=ze j
     have a4:=ze a1
     have M:=ze V
     clear b j a1 V
     go_frame)
   |gi_in)
  have hk:=ud a4
  have z:(W.alloc (.cells #[.iface x.jt (.agg #[I O x.s.t,I O x.s.se,I O x.s.we]),I O x.si,I O x.tc,I O x.rest] 162)).grownBy w3 (Value.slice va d.length vc).ownBlock:=ud a3
  have m:=ud a5
  have hb:=ud y
  have g:=(R W.1.size W).alloc (U _) (.cells #[.iface x.jt (.agg #[I O x.s.t,I O x.s.se,I O x.s.we]),I O x.si,I O x.tc,I O x.rest] 162)
  have a6:C w.1.size w w3:=(hb.alloc hb.size _).grown z (by have:=hb.size;rw[zF];omega) (fun k e=>((ud a).lt k e).1)
  refine⟨((zu g).trans hk.1).trans ((KeepsOthers.setCell w3 ⟨w.1.size,0,G⟩ _).from _),((KeepsWalks.alloc _ _).trans hk.2).trans (KeepsWalks.setCell _ _ _),?_⟩
  exact⟨_,xm (i:=0) (ud M) _,zi m (zn (f:=fun k=>k=w.1.size) (zk.refl _ _) rfl) (fun k a7 e=>zt (ud M) m (by decide) k a7 e),a6.setCell (p:=⟨w.1.size,0,G⟩) (U _) _⟩
 case done=>
  rintro D xs W hD hS ⟨v,i1,i2,i3⟩ L
  obtain⟨va,vc,rfl⟩:=zq i2
  obtain⟨c2,-⟩:=zc i1
  have a:=ze i2
  have y:=ze i3
  clear i1 i2 i3
  gi_wp2
  refine⟨by simp,.inl ⟨_,_,rfl,run_takeDeferred L,?_⟩⟩
  exact⟨_,results_tmp rfl _ _ _,xs,_,hS,rfl,zcf (ud a) (grownBy_putObj' _ _ _) (fun r e=>by cases e;exact⟨_,L,rfl⟩),xD (ud y) (U _) (by omega) L _⟩
 case stop=>
  rintro D c d W _ _ h _
  exact h.elim
theorem Qy{n m:Nat}{w W:T}(h:KX (fun _=>False) n m w W)(hn:w.1.size<=n):C w.1.size w W:=⟨h.kept.os,h.kept.tape,h.kept.output,h.kept.size,fun k a=>h.low (by omega) (fun e=>e) a⟩
theorem zki(gf:Nat)(lb:Array z5)(c:Nat)(a b:Array z5)(w:T):
  Calls prog 126 #[.func (.func gf) #[] lb,.func (.func c) a b] w fun e w'=>e=.returned (.func (.func 175) #[] #[.pointer (E ⟨w.1.size,0,G⟩),.pointer (E ⟨w.1.size+1,0,G⟩)])/\w'=((w.alloc (.cells #[.func (.func gf) #[] lb] 133)).alloc (.cells #[.func (.func c) a b] 143)):=by
 go_enter func126,ntmps126
 go_wp2_with fail
 go_ret
 exact⟨rfl,rfl⟩
theorem zkf:∀args w,(callFunc 175 args).run prog w=.ok (.enter 175 args) w:=enters_of func175 (by kernel_rfl) rfl
theorem zjE(x:SV)(w:T):Calls prog 127 #[.agg #[I O x.st,I O x.cl.cnt,I O x.cl.sum,I z6 x.cl.mn,I z6 x.cl.mx]] w fun e w'=>e=.returned (I O 1)/\C w.1.size w w':=by
 have a:C w.1.size w (w.alloc (.cells #[I O x.st,I O x.cl.cnt,I O x.cl.sum,I z6 x.cl.mn,I z6 x.cl.mx] 131)):=(R _ _).alloc (U _) _
 go_enter func127,ntmps127
 go_wp2_with fail
 go_ret
 first|exact⟨rfl,a⟩|exact⟨rfl,R _ _⟩
theorem zjd(gf:Nat)(lb:Array z5)(r:∀args w,(callFunc gf args).run prog w=.ok (.enter gf args) w)(c:Nat)(a g:Array z5)(s:∀args w,(callFunc c args).run prog w=.ok (.enter c args) w){N:Nat}{S:List SV->Prop}(p:SV->Bool)(w:T)
  (k:∀(x:SV) (W:T),C w.1.size w W->Calls prog c (a++#[.agg #[I O x.st,I O x.cl.cnt,I O x.cl.sum,I z6 x.cl.mn,I z6 x.cl.mx]]++g) W fun e A=>e=.returned (.bool (p x))/\C W.1.size W A)
  (f:jw (fun _=>False) w.1.size prog gf lb (fun x:SV=>#[.agg #[I O x.st,I O x.cl.cnt,I O x.cl.sum,I z6 x.cl.mn,I z6 x.cl.mx]]) S N w) (B:∀xs,S xs->xs.length<=9223372036854775807):
  Calls prog 73 #[.func (.func gf) #[] lb,.func (.func c) a g] w fun e w'=>∃xs,S xs/\e=.returned (I O (xs.filter p).length)/\C w.1.size w w':=by
 obtain⟨o,q,b,i⟩:=box2 w (.cells #[.func (.func gf) #[] lb] 133) (.cells #[.func (.func c) a g] 143)
 have u:jw (fun _=>False) (w.1.size+2) prog 175 #[.pointer (E ⟨w.1.size,0,G⟩),.pointer (E ⟨w.1.size+1,0,G⟩)] (fun x:SV=>#[.agg #[I O x.st,I O x.cl.cnt,I O x.cl.sum,I z6 x.cl.mn,I z6 x.cl.mx]]) (fun v=>∃xs,S xs/\v=xs.filter p) N ((w.alloc (.cells #[.func (.func gf) #[] lb] 133)).alloc (.cells #[.func (.func c) a g] 143)):=
  zgX gf lb r c a g s p w.1.size (w.1.size+1) _ (by rw[i];omega) ⟨by omega,fun e=>e⟩ ⟨by omega,fun e=>e⟩ o q (fun x W ⟨m,D⟩=>k x W (b.trans ((Qy D (by rw[i];omega)).mono (by rw[i];omega)))) ((f.later b).lower (by omega))
 have y:=ze (zgE 175 _ zkf (fun _=>1) _ (by rw[i];omega) (fun x W _=>zjE x W) u)
 have z:=ze (zki gf lb c a g w)
 have n:=ze b
 clear k f u o q b i r s
 go_enter func73,ntmps73
 go_wp2_with(first
  |(go_at_call 126;refine(ud z).mono ?_;rintro e F ⟨rfl,rfl⟩)
  |(go_at_call 70;refine(ud y).mono ?_;rintro e H ⟨v,⟨xs,t,rfl⟩,rfl,j⟩;have l:=ze j;have h:=ze t;clear j t))
 go_ret
 have d:=z7 (ym p xs) (B xs (ud h))
 refine⟨xs,ud h,by(first|rw[vW _ d]|rw[vW _ (by rw[List.length_unattach];exact d),List.length_unattach]);rfl,(ud n).trans ((ud l).mono (ud n).size)⟩
theorem zkh(gf:Nat)(lb:Array z5)(c:Nat)(a b:Array z5)(w:T):
  Calls prog 129 #[.func (.func gf) #[] lb,.func (.func c) a b] w fun e w'=>e=.returned (.func (.func 176) #[] #[.pointer (E ⟨w.1.size,0,G⟩),.pointer (E ⟨w.1.size+1,0,G⟩)])/\w'=((w.alloc (.cells #[.func (.func gf) #[] lb] 151)).alloc (.cells #[.func (.func c) a b] 157)):=by
 go_enter func129,ntmps129
 go_wp2_with fail
 go_ret
 exact⟨rfl,rfl⟩
theorem zke:∀args w,(callFunc 176 args).run prog w=.ok (.enter 176 args) w:=enters_of func176 (by kernel_rfl) rfl
theorem zjD(x:Lse)(w:T):Calls prog 130 #[.agg #[I O x.kd,I O x.s.t,I O x.s.se,I O x.s.we,I O x.slot,I O x.til]] w fun e w'=>e=.returned (I O 1)/\C w.1.size w w':=by
 have a:C w.1.size w (w.alloc (.cells #[I O x.kd,I O x.s.t,I O x.s.se,I O x.s.we,I O x.slot,I O x.til] 149)):=(R _ _).alloc (U _) _
 go_enter func130,ntmps130
 go_wp2_with fail
 go_ret
 first|exact⟨rfl,a⟩|exact⟨rfl,R _ _⟩
theorem zeH(gf:Nat)(lb:Array z5)(r:∀args w,(callFunc gf args).run prog w=.ok (.enter gf args) w)(c:Nat)(a g:Array z5)(u:∀args w,(callFunc c args).run prog w=.ok (.enter c args) w){N:Nat}{S:List Lse->Prop}(p:Lse->Bool)(w:T)
  (k:∀(x:Lse) (W:T),C w.1.size w W->Calls prog c (a++#[.agg #[I O x.kd,I O x.s.t,I O x.s.se,I O x.s.we,I O x.slot,I O x.til]]++g) W fun e D=>e=.returned (.bool (p x))/\C W.1.size W D)
  (f:jw (fun _=>False) w.1.size prog gf lb (fun x:Lse=>#[.agg #[I O x.kd,I O x.s.t,I O x.s.se,I O x.s.we,I O x.slot,I O x.til]]) S N w) (F:∀xs,S xs->xs.length<=9223372036854775807):
  Calls prog 78 #[.func (.func gf) #[] lb,.func (.func c) a g] w fun e w'=>∃xs,S xs/\e=.returned (I O (xs.filter p).length)/\C w.1.size w w':=by
 obtain⟨o,q,b,i⟩:=box2 w (.cells #[.func (.func gf) #[] lb] 151) (.cells #[.func (.func c) a g] 157)
 have y:jw (fun _=>False) (w.1.size+2) prog 176 #[.pointer (E ⟨w.1.size,0,G⟩),.pointer (E ⟨w.1.size+1,0,G⟩)] (fun x:Lse=>#[.agg #[I O x.kd,I O x.s.t,I O x.s.se,I O x.s.we,I O x.slot,I O x.til]]) (fun z=>∃xs,S xs/\z=xs.filter p) N ((w.alloc (.cells #[.func (.func gf) #[] lb] 151)).alloc (.cells #[.func (.func c) a g] 157)):=
  zgW gf lb r c a g u p w.1.size (w.1.size+1) _ (by rw[i];omega) ⟨by omega,fun e=>e⟩ ⟨by omega,fun e=>e⟩ o q (fun x W ⟨m,H⟩=>k x W (b.trans ((Qy H (by rw[i];omega)).mono (by rw[i];omega)))) ((f.later b).lower (by omega))
 have A:=ze (zgD 176 _ zke (fun _=>1) _ (by rw[i];omega) (fun x W _=>zjD x W) y)
 have B:=ze (zkh gf lb c a g w)
 have n:=ze b
 clear k f y o q b i r u
 go_enter func78,ntmps78
 go_wp2_with(first
  |(go_at_call 129;refine(ud B).mono ?_;rintro e J ⟨rfl,rfl⟩)
  |(go_at_call 128;refine(ud A).mono ?_;rintro e K ⟨z,⟨xs,v,rfl⟩,rfl,j⟩;have l:=ze j;have h:=ze v;clear j v))
 go_ret
 have d:=z7 (ym p xs) (F xs (ud h))
 refine⟨xs,ud h,by(first|rw[vW _ d]|rw[vW _ (by rw[List.length_unattach];exact d),List.length_unattach]);rfl,(ud n).trans ((ud l).mono (ud n).size)⟩
theorem VW(gf:Nat)(lb:Array z5)(c:Nat)(a b:Array z5)(w:T):
  Calls prog 144 #[.func (.func gf) #[] lb,.func (.func c) a b] w fun e w'=>e=.returned (.func (.func 191) #[] #[.pointer (E ⟨w.1.size,0,G⟩),.pointer (E ⟨w.1.size+1,0,G⟩)])/\w'=((w.alloc (.cells #[.func (.func gf) #[] lb] 179)).alloc (.cells #[.func (.func c) a b] 226)):=by
 go_enter func144,ntmps144
 go_wp2_with fail
 go_ret
 exact⟨rfl,rfl⟩
theorem VV:∀args w,(callFunc 191 args).run prog w=.ok (.enter 191 args) w:=enters_of func191 (by kernel_rfl) rfl
theorem zjC{α:Type}(a:α->Sg)(x:α)(w:T):Calls prog 195 #[.agg #[I O (a x).t,I O (a x).se,I O (a x).we]] w fun e w'=>e=.returned (I O 1)/\C w.1.size w w':=by
 have b:C w.1.size w (w.alloc (.cells #[I O (a x).t,I O (a x).se,I O (a x).we] 137)):=(R _ _).alloc (U _) _
 go_enter func195,ntmps195
 go_wp2_with fail
 go_ret
 first|exact⟨rfl,b⟩|exact⟨rfl,R _ _⟩
theorem zeG{α:Type}(b:α->Sg)(gf:Nat)(lb:Array z5)(s:∀args w,(callFunc gf args).run prog w=.ok (.enter gf args) w)(d:Nat)(a h:Array z5)(u:∀args w,(callFunc d args).run prog w=.ok (.enter d args) w){N:Nat}{S:List α->Prop}(p:α->Bool)(w:T)
  (l:∀(x:α) (W:T),C w.1.size w W->Calls prog d (a++#[.agg #[I O (b x).t,I O (b x).se,I O (b x).we]]++h) W fun e D=>e=.returned (.bool (p x))/\C W.1.size W D)
  (g:jw (fun _=>False) w.1.size prog gf lb (fun x:α=>#[.agg #[I O (b x).t,I O (b x).se,I O (b x).we]]) S N w) (F:∀xs,S xs->xs.length<=9223372036854775807):
  Calls prog 150 #[.func (.func gf) #[] lb,.func (.func d) a h] w fun e w'=>∃xs,S xs/\e=.returned (I O (xs.filter p).length)/\C w.1.size w w':=by
 obtain⟨q,r,c,j⟩:=box2 w (.cells #[.func (.func gf) #[] lb] 179) (.cells #[.func (.func d) a h] 226)
 have y:jw (fun _=>False) (w.1.size+2) prog 191 #[.pointer (E ⟨w.1.size,0,G⟩),.pointer (E ⟨w.1.size+1,0,G⟩)] (fun x:α=>#[.agg #[I O (b x).t,I O (b x).se,I O (b x).we]]) (fun z=>∃xs,S xs/\z=xs.filter p) N ((w.alloc (.cells #[.func (.func gf) #[] lb] 179)).alloc (.cells #[.func (.func d) a h] 226)):=
  Xs b gf lb s d a h u p w.1.size (w.1.size+1) _ (by rw[j];omega) ⟨by omega,fun e=>e⟩ ⟨by omega,fun e=>e⟩ q r (fun x W ⟨m,H⟩=>l x W (c.trans ((Qy H (by rw[j];omega)).mono (by rw[j];omega)))) ((g.later c).lower (by omega))
 have A:=ze (zgC b 191 _ VV (fun _=>1) _ (by rw[j];omega) (fun x W _=>zjC b x W) y)
 have B:=ze (VW gf lb d a h w)
 have o:=ze c
 clear l g y q r c j s u
 go_enter func150,ntmps150
 go_wp2_with(first
  |(go_at_call 144;refine(ud B).mono ?_;rintro e J ⟨rfl,rfl⟩)
  |(go_at_call 194;refine(ud A).mono ?_;rintro e K ⟨z,⟨xs,v,rfl⟩,rfl,k⟩;have n:=ze k;have i:=ze v;clear k v))
 go_ret
 have f:=z7 (ym p xs) (F xs (ud i))
 refine⟨xs,ud i,by(first|rw[vW _ f]|rw[vW _ (by rw[List.length_unattach];exact f),List.length_unattach]);rfl,(ud o).trans ((ud n).mono (ud o).size)⟩
structure xJ(w:T)(s:Nat)(c:Cf)(tv:z5)(lb gb:Nat)(Gl:List (Sg×Unit))(L:LV):Prop where
 head:w.1[s]?=E (.cells #[I O c.s,I O c.le,I O c.la,I O c.wi,I O c.ke,I O c.qu,tv,.map (E lb),.map (E gb)] 140 (0,0))
 trow:w.ownsRow 0 66 3 tv c.n (Xk c.n c.F c.W c.K)
 live:yj w lb L
 gone:xh XD w gb Gl
 apart:gb≠lb
structure kQ(w:T)(s:Nat)(c:Cf)(tv:z5)(lb gb:Nat):Prop where
 head:w.1[s]?=E (.cells #[I O c.s,I O c.le,I O c.la,I O c.wi,I O c.ke,I O c.qu,tv,.map (E lb),.map (E gb)] 140 (0,0))
 trow:w.ownsRow 0 66 3 tv c.n (Xk c.n c.F c.W c.K)
theorem xJ.hd{w:T}{s:Nat}{c:Cf}{tv:z5}{lb gb:Nat}{Gl:List (Sg×Unit)}{L:LV}(h:xJ w s c tv lb gb Gl L):kQ w s c tv lb gb:=⟨h.head,h.trow⟩
theorem kQ.lt{w:T}{s:Nat}{c:Cf}{tv:z5}{lb gb:Nat}(h:kQ w s c tv lb gb):s<w.1.size:=zd h.head
theorem kQ.kept{f:Nat->Prop}{w w':T}{s:Nat}{c:Cf}{tv:z5}{lb gb:Nat}(h:kQ w s c tv lb gb)(a:zk f w w')(b:¬f s)(d:∀k,tv.ownBlock=E k->¬f k):kQ w' s c tv lb gb:=⟨a.heap h.head b,zi h.trow a d⟩
theorem kQ.later{w w':T}{s:Nat}{c:Cf}{tv:z5}{lb gb:Nat}(h:kQ w s c tv lb gb)(a:C w.1.size w w'):kQ w' s c tv lb gb:=h.kept (f:=fun _=>False) (zk.of_below a) (fun h=>h) (fun _ _ h=>h)
theorem kQ.cells{w:T}{s:Nat}{c:Cf}{tv:z5}{lb gb:Nat}(h:kQ w s c tv lb gb):w.cell? ⟨s,0,G⟩=E (I O c.s)/\w.cell? ⟨s,1,G⟩=E (I O c.le)/\w.cell? ⟨s,2,G⟩=E (I O c.la)/\w.cell? ⟨s,3,G⟩=E (I O c.wi)/\w.cell? ⟨s,4,G⟩=E (I O c.ke)/\w.cell? ⟨s,5,G⟩=E (I O c.qu)/\w.cell? ⟨s,6,G⟩=E tv/\w.cell? ⟨s,7,G⟩=E (.map (E lb))/\w.cell? ⟨s,8,G⟩=E (.map (E gb)):=by
 refine⟨?_,?_,?_,?_,?_,?_,?_,?_,?_⟩<;>rw[zN h.head]<;>rfl
def ZI(s:Nat)(tv:z5)(lb gb:Nat)(k:Nat):Prop:=k=s\/tv.ownBlock=E k\/k=lb\/k=gb
section
variable {w:T} {s:Nat} {c:Cf} {tv:z5} {lb gb:Nat} {Gl:List (Sg×Unit)} {L:LV}
theorem xJ.lt(h:xJ w s c tv lb gb Gl L):s<w.1.size:=zd h.head
theorem xJ.kept{f:Nat->Prop}{w':T}(h:xJ w s c tv lb gb Gl L)(a:zk f w w')(hn:∀k,ZI s tv lb gb k->¬f k):xJ w' s c tv lb gb Gl L:=
 ⟨a.heap h.head (hn s (.inl rfl)),zi h.trow a (fun k b=>hn k (.inr (.inl b))),h.live.kept a (hn lb (.inr (.inr (.inl rfl)))),h.gone.kept a (hn gb (.inr (.inr (.inr rfl)))),h.apart⟩
theorem xJ.later{w':T}(h:xJ w s c tv lb gb Gl L)(a:C w.1.size w w'):xJ w' s c tv lb gb Gl L:=
 h.kept (f:=fun _=>False) (zk.of_below a) (fun _ _ b=>b)
theorem xJ.cells(h:xJ w s c tv lb gb Gl L):w.cell? ⟨s,0,G⟩=E (I O c.s)/\w.cell? ⟨s,1,G⟩=E (I O c.le)/\w.cell? ⟨s,2,G⟩=E (I O c.la)/\w.cell? ⟨s,3,G⟩=E (I O c.wi)/\w.cell? ⟨s,4,G⟩=E (I O c.ke)/\w.cell? ⟨s,5,G⟩=E (I O c.qu)/\w.cell? ⟨s,6,G⟩=E tv/\w.cell? ⟨s,7,G⟩=E (.map (E lb))/\w.cell? ⟨s,8,G⟩=E (.map (E gb)):=by
 refine⟨?_,?_,?_,?_,?_,?_,?_,?_,?_⟩<;>rw[zN h.head]<;>rfl
end
theorem zkb(x:SV)(w:T):Calls prog 72 #[.agg #[I O x.st,I O x.cl.cnt,I O x.cl.sum,I z6 x.cl.mn,I z6 x.cl.mx]] w fun e w'=>e=.returned (I O (yM x))/\C w.1.size w w':=by
 by_cases h:x.st=1
 ·have a:(x.st==1)=true:=by simp[h]
  rw[show yM x=x.cl.cnt from by simp[yM,h]]
  clear h
  go_enter func72,ntmps72
  go_wp2_with fail
  go_ret
  exact⟨rfl,(R _ _).alloc (U _) _⟩
 ·have a:(x.st==1)=false:=by simp[h]
  rw[show yM x=2 from by simp[yM,h]]
  clear h
  go_enter func72,ntmps72
  go_wp2_with fail
  go_ret
  exact⟨rfl,(R _ _).alloc (U _) _⟩
theorem zbk(x:SV)(a:Nat)(k:Int)(w:T)(b:w.cell? ⟨a,0,G⟩=E (I O k))(c:a<w.1.size):Calls prog 74 #[.agg #[I O x.st,I O x.cl.cnt,I O x.cl.sum,I z6 x.cl.mn,I z6 x.cl.mx],.pointer (E ⟨a,0,G⟩)] w fun e w'=>e=.returned (.bool (x.st==k))/\C w.1.size w w':=by
 go_enter func74,ntmps74
 go_wp2_with fail
 go_ret
 exact⟨rfl,(R _ _).alloc (U _) _⟩
theorem zhc{L:LV}{ps:List (Sg×SV)}(f:SV->Int)(h:ps.Perm L)(a:yS (xX (L.map (fun p=>f p.2)))):vn ((ps.map (fun p:Sg×SV=>p.2)).map f)=xX (L.map (fun p=>f p.2)):=by
 have e:xX ((ps.map (fun p:Sg×SV=>p.2)).map f)=xX (L.map (fun p=>f p.2)):=by
  rw[List.map_map];exact YD (h.map _)
 rw[<-e];apply kO;rw[e];exact a
theorem zcN{L:LV}{ps:List (Sg×SV)}(k:Int)(h:ps.Perm L):(((ps.map (fun p:Sg×SV=>p.2)).filter (fun x=>x.st==k)).length:Int)=xU L k:=by
 unfold xU
 have e:xX (L.map (fun p=>YP k p.2))=xX (ps.map (fun p=>YP k p.2)):=(YD (h.map _)).symm
 rw[e]
 induction ps generalizing L with
 |nil=>rfl
 |cons p ps c=>
  have a:=c (List.Perm.refl ps) rfl
  simp only[List.map_cons,List.filter_cons,xX]
  unfold YP at*
  by_cases b:p.2.st=k
  ·rw[if_pos (by simpa using b),if_pos b,List.length_cons,<-a];omega
  ·rw[if_neg (by simpa using b),if_neg b,<-a];omega
theorem Xj{w:T}{s:Nat}{c:Cf}{tv:z5}{lb gb:Nat}{Gl:List (Sg×Unit)}{L:LV}(h:xJ w s c tv lb gb Gl L)(d:yS (xg L)):
  Calls prog 33 #[.pointer (E ⟨s,0,G⟩)] w fun e w'=>e=.returned (I O (xg L))/\C w.1.size w w':=by
 have l:=h.lt
 obtain⟨-,-,-,-,-,-,-,n,-⟩:=h.cells
 have a:∀o,C w.1.size w (w.alloc o):=fun o=>(R _ _).alloc (U _) _
 have j:=ze (zbW lb w)
 have i:=ze (zin 125 #[.pointer (E ⟨w.1.size,0,G⟩)] zeJ yM (w.alloc (.cells #[.map (E lb)] 135)) (U _)
  (fun x W p=>zkb x W)
  (zeZ (ex:=fun _=>False) w.1.size lb L _ (fun e=>e) (by simp) (by rw[zN (zo _ _)];rfl) (yW.1 (h.live.later (a _)))))
 have g:=ze d
 clear h d
 go_enter func33,ntmps33
 go_wp2_with fail
 refine(ud j).mono ?_
 rintro e m ⟨rfl,rfl⟩
 go_wp2_with fail
 refine(ud i).mono ?_
 rintro e m ⟨xs,⟨ps,k,rfl⟩,rfl,b⟩
 have f:=zhc yM k (ud g)
 rw[f]
 clear f
 go_wp2_with fail
 go_ret
 exact⟨rfl,(a _).trans (b.mono (a _).size)⟩
theorem scen:∀args w,(callFunc 74 args).run prog w=.ok (.enter 74 args) w:=enters_of func74 (by kernel_rfl) rfl
theorem XN{w:T}{s:Nat}{c:Cf}{tv:z5}{lb gb:Nat}{Gl:List (Sg×Unit)}{L:LV}(h:xJ w s c tv lb gb Gl L)(k:Int)(z:(k==4)=false)(v:L.length<=100000):
  Calls prog 34 #[.pointer (E ⟨s,0,G⟩),I O k] w fun e w'=>e=.returned (I O (xU L k))/\C w.1.size w w':=by
 have j:=h.lt
 obtain⟨-,-,-,-,-,-,-,t,-⟩:=h.cells
 have f:∀o,C w.1.size w (w.alloc o):=fun o=>(R _ _).alloc (U _) _
 obtain⟨d,m,a,n⟩:=box2 w (.cells #[I O k] 87) (.cells #[.map (E lb)] 135)
 have r:=ze (zbW lb (w.alloc (.cells #[I O k] 87)))
 have q:=ze (zjd 125 #[.pointer (E ⟨w.1.size+1,0,G⟩)] zeJ 74 #[] #[.pointer (E ⟨w.1.size,0,G⟩)] scen (fun x=>x.st==k) _
  (fun x W l=>zbk x w.1.size k W (by rw[zN ((l.block _ (zd d)).trans d)];rfl) (Nat.lt_of_lt_of_le (zd d) l.size))
  (zeZ (ex:=fun _=>False) (w.1.size+1) lb L _ (fun e=>e) (by rw[n];omega) (by rw[zN m];rfl) (yW.1 (h.live.later a))) (fun xs ⟨ps,i,e⟩=>by rw[e,List.length_map,i.length_eq];omega))
 have b:=ze a
 have u:=((f (.cells #[I O k] 87)).cell (p:=⟨s,7,G⟩) j).trans t
 clear h v d m a n
 go_enter func34,ntmps34
 go_wp2_with fail
 refine(ud r).mono ?_
 rintro e y ⟨rfl,rfl⟩
 go_wp2_with fail
 refine(ud q).mono ?_
 rintro e y ⟨xs,⟨ps,i,rfl⟩,rfl,g⟩
 rw[zcN k i]
 go_wp2_with fail
 go_ret
 exact⟨rfl,(ud b).trans (g.mono (ud b).size)⟩
theorem zfO{w:T}{s:Nat}{c:Cf}{tv:z5}{lb gb:Nat}{Gl:List (Sg×Unit)}{L:LV}(h:xJ w s c tv lb gb Gl L):
  Calls prog 34 #[.pointer (E ⟨s,0,G⟩),I O 4] w fun e w'=>e=.returned (I O Gl.length)/\C w.1.size w w':=by
 have d:=h.lt
 obtain⟨-,-,-,-,-,-,-,-,f⟩:=h.cells
 have a:∀o,C w.1.size w (w.alloc o):=fun o=>(R _ _).alloc (U _) _
 have b:(Builtin.len_ #[138] 3 #[.map (E gb)]).run prog (w.alloc (.cells #[I O 4] 87))=.ok (I O Gl.length) (w.alloc (.cells #[I O 4] 87)):=zii Y8 (h.gone.later (a _)) _
 clear h
 go_enter func34,ntmps34
 go_wp2_with fail
 go_ret
 exact⟨rfl,a _⟩
theorem Kr(c:Cf)(a:Option Addr)(cap:Nat)(w:T):Calls prog 169 #[.agg #[I O c.s,I O c.le,I O c.la,I O c.wi,I O c.ke,I O c.qu,.slice a c.n cap]] w fun e w'=>e=.returned (I O c.n)/\C w.1.size w w':=by
 go_enter func169,ntmps169
 go_wp2_with fail
 go_ret
 exact⟨rfl,(R _ _).alloc (U _) _⟩
theorem Qz(c:Cf)(a:Option Addr)(cap:Nat)(w:T):Calls prog 114 #[.agg #[I O c.s,I O c.le,I O c.la,I O c.wi,I O c.ke,I O c.qu,.slice a c.n cap]] w fun e w'=>e=.returned (I O c.la)/\C w.1.size w w':=by
 go_enter func114,ntmps114
 go_wp2_with fail
 go_ret
 exact⟨rfl,(R _ _).alloc (U _) _⟩
theorem XK(c:Cf)(a:Option Addr)(cap:Nat)(w:T):Calls prog 75 #[.agg #[I O c.s,I O c.le,I O c.la,I O c.wi,I O c.ke,I O c.qu,.slice a c.n cap]] w fun e w'=>e=.returned (I O c.qu)/\C w.1.size w w':=by
 go_enter func75,ntmps75
 go_wp2_with fail
 go_ret
 exact⟨rfl,(R _ _).alloc (U _) _⟩
theorem zaV(c:Cf)(l:c.ok)(a:Option Addr)(cap:Nat)(t tm:Int)(d: -1<=t)(f:t<c.n)(j:0<=tm/\tm<=100000)(w:T)(k:TS w a c.n c.F c.W c.K):Calls prog 205 #[.agg #[I O c.s,I O c.le,I O c.la,I O c.wi,I O c.ke,I O c.qu,.slice a c.n cap],I O t,I O tm] w fun e w'=>e=.returned (I O (tm/c.wh t))/\C w.1.size w w':=by
 have b:∀o,C w.1.size w (w.alloc o):=fun o=>(R _ _).alloc (U _) _
 obtain⟨r,u⟩:=l.wh d f
 obtain⟨p,q⟩:=j
 have i:=l.n4
 have m:Hid (xd c.wi c.W t=c.wh t):=rfl
 have g:=fun o=>ze (ko c.s c.le c.la c.wi c.ke c.qu a c.n cap c.F c.W c.K t d f i (w.alloc o) (k.below (b o)))
 go_enter func205,ntmps205
 go_wp2_with fail
 refine(ud (g _)).mono ?_
 rintro e v ⟨rfl,h⟩
 rw[ud m]
 go_wp2_with fail
 go_ret
 exact⟨rfl,(b _).trans (h.mono (b _).size)⟩
theorem Vm(c:Cf)(q:c.ok)(a:Option Addr)(cap:Nat)(t we:Int)(f: -1<=t)(g:t<c.n)(p:0<=we/\we<=100000)(w:T)(l:TS w a c.n c.F c.W c.K):Calls prog 170 #[.agg #[I O c.s,I O c.le,I O c.la,I O c.wi,I O c.ke,I O c.qu,.slice a c.n cap],I O t,I O we] w fun e w'=>e=.returned (I O ((we+1)*c.wh t))/\C w.1.size w w':=by
 have b:∀o,C w.1.size w (w.alloc o):=fun o=>(R _ _).alloc (U _) _
 obtain⟨z,m⟩:=q.wh f g
 obtain⟨x,y⟩:=p
 have k:=q.n4
 have r:Hid (xd c.wi c.W t=c.wh t):=rfl
 have i:=fun o=>ze (ko c.s c.le c.la c.wi c.ke c.qu a c.n cap c.F c.W c.K t f g k (w.alloc o) (l.below (b o)))
 have d:0<=(we+1)*c.wh t/\(we+1)*c.wh t<=1000000000:=by
  constructor
  ·exact Int.mul_nonneg (by omega) (by omega)
  ·have:=Int.mul_le_mul (show we+1<=100001 by omega) m (by omega) (by omega);omega
 obtain⟨u,v⟩:=d
 have h:wrap64 ((we+1)*c.wh t)=(we+1)*c.wh t:=by unfold wrap64;omega
 go_enter func170,ntmps170
 go_wp2_with fail
 refine(ud (i _)).mono ?_
 rintro e A ⟨rfl,j⟩
 rw[ud r]
 go_wp2_with fail
 go_ret
 exact⟨by first|rfl|rw[h],(b _).trans (j.mono (b _).size)⟩
theorem zbZ(c:Cf)(f:c.ok)(a:Option Addr)(cap:Nat)(t:Int)(w:T):Calls prog 117 #[.agg #[I O c.s,I O c.le,I O c.la,I O c.wi,I O c.ke,I O c.qu,.slice a c.n cap],I O t] w fun e w'=>e=.returned (.bool (inB t (-1) ((c.n:Int)-1)))/\C w.1.size w w':=by
 have b:∀o,C w.1.size w (w.alloc o):=fun o=>(R _ _).alloc (U _) _
 have i:=f.n4
 have h:=f.n1
 have g:=fun o=>ze (Kr c a cap (w.alloc o))
 go_enter func117,ntmps117
 go_wp2_with fail
 refine(ud (g _)).mono ?_
 rintro e j ⟨rfl,d⟩
 go_wp2_with(go_at_call 77;refine(xI _ _ _ _).mono ?_;rintro e k ⟨rfl,rfl⟩)
 go_ret
 exact⟨rfl,(b _).trans (d.mono (b _).size)⟩
theorem zcg{w:T}{s:Nat}{c:Cf}{tv:z5}{lb gb:Nat}(h:kQ w s c tv lb gb)(z:c.ok)(t se tm:Int)(l: -1<=t)(m:t<c.n)(q:0<=tm/\tm<=100000):
  Calls prog 168 #[.pointer (E ⟨s,0,G⟩),I O t,I O se,I O tm] w fun e w'=>e=.returned (.agg #[I O t,I O se,I O (tm/c.wh t)])/\C w.1.size w w':=by
 obtain⟨a,cap,rfl⟩:=zq h.trow
 have B:=h.lt
 have b:∀o,C w.1.size w (w.alloc o):=fun o=>(R _ _).alloc (U _) _
 have f:=TS.of_owns h.trow
 obtain⟨D,F,H,J,K,L,M,-,-⟩:=h.cells
 have i:=fun o=>ze (zaV c z a cap t tm l m q (w.alloc o) (f.below (b o)))
 have u:=ze (zo w (.cells #[I O 0,I O 0,I O 0] 137))
 have x:=ze (zF w (.cells #[I O 0,I O 0,I O 0] 137))
 clear h f
 go_enter func168,ntmps168
 go_wp2_with fail
 refine(ud (i _)).mono ?_
 rintro e r ⟨rfl,d⟩
 have g:=(d.block w.1.size (by rw[ud x];omega)).trans (ud u)
 obtain⟨N,P,Q,-⟩:=zc g
 have S:=fun j=>zD g j
 have y:=ze g
 clear g
 go_wp2_with fail
 have A:=set3 (ud y) (I O t) (I O se) (I O (tm/c.wh t))
 have k:C w.1.size r (((r.setCell ⟨w.1.size,0,G⟩ (I O t)).setCell ⟨w.1.size,1,G⟩ (I O se)).setCell ⟨w.1.size,2,G⟩ (I O (tm/c.wh t))):=(((R _ _).setCell (p:=⟨w.1.size,0,G⟩) (U _) _).setCell (p:=⟨w.1.size,1,G⟩) (U _) _).setCell (p:=⟨w.1.size,2,G⟩) (U _) _
 refine bodyPost_ret (v:=.agg #[I O t,I O se,I O (tm/c.wh t)]) (results_cell_row results168 _ _ w.1.size _ _ _ _ rfl A underlying137 rfl (by kernel_rfl)) rfl ?_
 exact⟨rfl,(b _).trans ((d.mono (b _).size).trans k)⟩
theorem zde(c:Cf)(a:Option Addr)(cap:Nat)(w:T):Calls prog 88 #[.agg #[I O c.s,I O c.le,I O c.la,I O c.wi,I O c.ke,I O c.qu,.slice a c.n cap]] w fun e w'=>e=.returned (I O c.le)/\C w.1.size w w':=by
 go_enter func88,ntmps88
 go_wp2_with fail
 go_ret
 exact⟨rfl,(R _ _).alloc (U _) _⟩
theorem Jy(c:Cf)(d:c.ok)(a:Option Addr)(cap:Nat)(t:Int)(w:T):Calls prog 37 #[.agg #[I O c.s,I O c.le,I O c.la,I O c.wi,I O c.ke,I O c.qu,.slice a c.n cap],I O t] w fun e w'=>e=.returned (.bool (inB t 0 (c.s-1)))/\C w.1.size w w':=by
 have b:∀o,C w.1.size w (w.alloc o):=fun o=>(R _ _).alloc (U _) _
 obtain⟨g,h⟩:=d.sl
 have f:=fun W=>ze (xI t 0 (c.s-1) W)
 clear d
 go_enter func37,ntmps37
 go_wp2_with(first|(go_at_call 77;refine(ud (f _)).mono ?_;rintro e i ⟨rfl,rfl⟩))
 go_ret
 exact⟨rfl,b _⟩
theorem zdd(c:Cf)(l:c.ok)(a:Option Addr)(cap:Nat)(t:Int)(r: -1<=t)(u:t<c.n)(w:T)(g:TS w a c.n c.F c.W c.K):Calls prog 193 #[.agg #[I O c.s,I O c.le,I O c.la,I O c.wi,I O c.ke,I O c.qu,.slice a c.n cap],I O t] w fun e w'=>e=.returned (I O (c.keep t))/\C w.1.size w w':=by
 have q:=l.n4
 have d:∀o,C w.1.size w (w.alloc o):=fun o=>(R _ _).alloc (U _) _
 by_cases h:t= -1
 ·subst h
  rw[show c.keep (-1)=c.ke from rfl]
  go_enter func193,ntmps193
  go_wp2_with fail
  go_ret
  exact⟨rfl,d _⟩
 ·obtain⟨k,rfl⟩:∃k:Nat,t=k:=⟨t.toNat,by omega⟩
  have m:k<c.n:=by omega
  obtain⟨b,v,rfl,j,f⟩:=g.below (d (.cells #[I O c.s,I O c.le,I O c.la,I O c.wi,I O c.ke,I O c.qu,.slice a c.n cap] 27)) (by omega)
  obtain⟨-,-,y⟩:=f k m
  have p:(k:Int)<c.n:=by omega
  have x:((k:Int)== -1)=false:=by simp
  have i:Hid (c.keep (k:Int)=c.K k):=by show c.keep (k:Int)=c.K k;unfold Cf.keep;rw[if_neg (by omega)];simp
  clear f g
  rw[ud i]
  go_enter func193,ntmps193
  go_wp2_with fail
  go_ret
  exact⟨rfl,d _⟩
theorem Yi(c:Cf)(p:c.ok)(a:Option Addr)(cap:Nat)(t we now:Int)(x: -1<=t)(y:t<c.n)(d:0<=we/\we<=100000)(r:0<=now/\now<=100000)(w:T)(f:TS w a c.n c.F c.W c.K):Calls prog 118 #[.agg #[I O c.s,I O c.le,I O c.la,I O c.wi,I O c.ke,I O c.qu,.slice a c.n cap],I O t,I O we,I O now] w fun e w'=>e=.returned (.bool (decide ((we+1)*c.wh t<=now-c.la)))/\C w.1.size w w':=by
 have l:∀o,C w.1.size w (w.alloc o):=fun o=>(R _ _).alloc (U _) _
 obtain⟨Z,a0⟩:=p.la
 have HC:=ze p
 have z:=d
 obtain⟨n1,n2⟩:=r
 have q:0<=(we+1)*c.wh t/\(we+1)*c.wh t<=1000000000:=by
  obtain⟨a1,J⟩:=p.wh x y
  constructor
  ·exact Int.mul_nonneg (by omega) (by omega)
  ·have:=Int.mul_le_mul (show we+1<=100001 by omega) J (by omega) (by omega);omega
 have S:=ze d
 obtain⟨v,hv⟩:∃v,(we+1)*c.wh t=v:=⟨_,rfl⟩
 have A:∀W,C w.1.size w W->Hid (Calls prog 170 #[.agg #[I O c.s,I O c.le,I O c.la,I O c.wi,I O c.ke,I O c.qu,.slice a c.n cap],I O t,I O we] W fun e w'=>e=.returned (I O v)/\C W.1.size W w'):=fun W Y=>by have h:=Vm c p a cap t we x y d W (f.below Y);rw[hv]at h;exact h
 rw[hv]at q ⊢
 clear p d z hv
 have m:=l (.cells #[I O c.s,I O c.le,I O c.la,I O c.wi,I O c.ke,I O c.qu,.slice a c.n cap] 80)
 have L:=zo w (.cells #[I O c.s,I O c.le,I O c.la,I O c.wi,I O c.ke,I O c.qu,.slice a c.n cap] 80)
 have M:=zF w (.cells #[I O c.s,I O c.le,I O c.la,I O c.wi,I O c.ke,I O c.qu,.slice a c.n cap] 80)
 obtain⟨x0,x1,x2,x3,x4,x5,x6,-⟩:=zc L
 have g:=ze m
 have Q:=ze f
 have P:=ze M
 clear L M m f l
 go_enter func118,ntmps118
 go_wp2_with fail
 have q4:w.1.size<w.1.size+1:=by omega
 generalize(w.alloc (.cells #[I O c.s,I O c.le,I O c.la,I O c.wi,I O c.ke,I O c.qu,.slice a c.n cap] 80))=X at*
 generalize V:w.1.size+1=N at*
 have H:Nonempty (zm N X):=zm.some _ _
 have D:=fun(u:zm N X) b o h=>u.cell b o h
 have k:N<=X.1.size:=by rw[ud P];exact U _
 have j:=ze k
 have i:Hid (w.1.size<=N):=by show w.1.size<=N;omega
 clear k V
 refine zh N (by kernel_rfl) (by kernel_rfl) ?_
 repeat(go_big_quiet_step (first
  |(go_at_call 170;exact Calls.later (ud j) (ud (A _ ((ud g).trans (Below.mono (Subtype.property _) (ud i))))))
  |(go_at_call 114;exact Calls.later (ud j) (Qz c a cap _))))
 refine wpQuiet_nil ?_
 rintro⟨w1,B⟩
 clear D H
 dsimp only
 go_wp2_with fail
 go_ret
 exact⟨rfl,(ud g).trans (B.mono (ud i))⟩
theorem Jt(c:Cf)(r:c.ok)(a:Option Addr)(cap:Nat)(t we:Int)(d: -1<=t)(f:t<c.n)(k:0<=we/\we<=100000)(w:T)(j:TS w a c.n c.F c.W c.K):Calls prog 149 #[.agg #[I O c.s,I O c.le,I O c.la,I O c.wi,I O c.ke,I O c.qu,.slice a c.n cap],I O t,I O we] w fun e w'=>e=.returned (I O ((we+1)*c.wh t+c.keep t))/\C w.1.size w w':=by
 have p:∀o,C w.1.size w (w.alloc o):=fun o=>(R _ _).alloc (U _) _
 have P:=ze r
 obtain⟨Z,k2⟩:=r.keeps d f
 have x:0<=(we+1)*c.wh t/\(we+1)*c.wh t<=1000000000:=by
  obtain⟨Y,H⟩:=r.wh d f
  constructor
  ·exact Int.mul_nonneg (by omega) (by omega)
  ·have:=Int.mul_le_mul (show we+1<=100001 by omega) H (by omega) (by omega);omega
 have Q:=ze k
 obtain⟨v,hv⟩:∃v,(we+1)*c.wh t=v:=⟨_,rfl⟩
 have y:∀W,C w.1.size w W->Hid (Calls prog 170 #[.agg #[I O c.s,I O c.le,I O c.la,I O c.wi,I O c.ke,I O c.qu,.slice a c.n cap],I O t,I O we] W fun e w'=>e=.returned (I O v)/\C W.1.size W w'):=fun W V=>by have h:=Vm c r a cap t we d f k W (j.below V);rw[hv]at h;exact h
 rw[hv]at x ⊢
 clear r k hv
 have q:=p (.cells #[I O c.s,I O c.le,I O c.la,I O c.wi,I O c.ke,I O c.qu,.slice a c.n cap] 80)
 have J:=zo w (.cells #[I O c.s,I O c.le,I O c.la,I O c.wi,I O c.ke,I O c.qu,.slice a c.n cap] 80)
 have L:=zF w (.cells #[I O c.s,I O c.le,I O c.la,I O c.wi,I O c.ke,I O c.qu,.slice a c.n cap] 80)
 obtain⟨x0,x1,x2,x3,x4,x5,x6,-⟩:=zc J
 have g:=ze q
 have z:=ze j
 have M:=ze L
 clear J L q j p
 go_enter func149,ntmps149
 go_wp2_with fail
 have q4:w.1.size<w.1.size+1:=by omega
 generalize(w.alloc (.cells #[I O c.s,I O c.le,I O c.la,I O c.wi,I O c.ke,I O c.qu,.slice a c.n cap] 80))=X at*
 generalize S:w.1.size+1=N at*
 have D:Nonempty (zm N X):=zm.some _ _
 have B:=fun(u:zm N X) b o h=>u.cell b o h
 have m:N<=X.1.size:=by rw[ud M];exact U _
 have l:=ze m
 have i:Hid (w.1.size<=N):=by show w.1.size<=N;omega
 clear m S
 refine zh N (by kernel_rfl) (by kernel_rfl) ?_
 repeat(go_big_quiet_step (first
  |(go_at_call 170;exact Calls.later (ud l) (ud (y _ ((ud g).trans (Below.mono (Subtype.property _) (ud i))))))
  |(go_at_call 193;exact Calls.later (ud l) (zdd c (ud P) a cap t d f _ ((ud z).below ((ud g).trans (Below.mono (Subtype.property _) (ud i))))))))
 refine wpQuiet_nil ?_
 rintro⟨w1,A⟩
 clear B D
 dsimp only
 go_wp2_with fail
 go_ret
 exact⟨rfl,(ud g).trans (A.mono (ud i))⟩
theorem jJ{P:Program}{fn:Func}{p u:Tmp}{b:TypeId}(h:fn.results=#[.tmp u,.cell p b])(tmps:Array z5)(w:T)(g:Nat)(t:TypeId)(cs:Array z5)(c:Nat×Nat)(d:TypeDesc)(x:z5)
  (m:tmps.getD u undef=x) (k:tmps.getD p undef=.pointer (E ⟨g,0,G⟩)) (i:w.1[g]?=E (.cells cs t c))
  (l:P.underlying b=E d) (f:(match d with| .struct _| .array _ _=>true|_=>false)=true) (j:(P.info? b).map (·.size)=E cs.size):
  (results fn tmps).run P w=.ok (.tuple #[x,.agg cs]) w:=by
 have e:(results fn tmps).run P w=((asAddr (tmps.getD p undef)).run P w).andThen fun a n=>((loadVar b a).run P n).andThen fun v o=> .ok (.tuple #[tmps.getD u undef,v]) o:=by
  simp only[results,h]
  simp[Sem.run_bind,Result.andThen]
 rw[e,k,m]
 simp[asAddr,run_loadVar_row w g t b cs c d i l f j,Result.andThen]
theorem zgo{w:T}{g:Nat}{a b c d:z5}{t:TypeId}{e:Nat×Nat}(h:w.1[g]?=E (.cells #[a,b,c,d] t e))(x y z u:z5):(((((w.setCell ⟨g,0,G⟩ x).setCell ⟨g,1,G⟩ y).setCell ⟨g,2,G⟩ z).setCell ⟨g,3,G⟩ u).drew).1[g]?=E (.cells #[x,y,z,u] t e):=by
 have:=xm (i:=3) (xm (i:=2) (xm (i:=1) (xm (i:=0) h x) y) z) u
 exact this
theorem QJ{B:Nat}{w:T}{g:Nat}(h:B<=g)(x y z u:z5):C B w (((((w.setCell ⟨g,0,G⟩ x).setCell ⟨g,1,G⟩ y).setCell ⟨g,2,G⟩ z).setCell ⟨g,3,G⟩ u).drew):=
 (((((R _ _).setCell (p:=⟨g,0,G⟩) h _).setCell (p:=⟨g,1,G⟩) h _).setCell (p:=⟨g,2,G⟩) h _).setCell (p:=⟨g,3,G⟩) h _).drew
theorem below4{B:Nat}{w:T}{g:Nat}(h:B<=g)(x y z u:z5):C B w ((((w.setCell ⟨g,0,G⟩ x).setCell ⟨g,1,G⟩ y).setCell ⟨g,2,G⟩ z).setCell ⟨g,3,G⟩ u):=
 ((((R _ _).setCell (p:=⟨g,0,G⟩) h _).setCell (p:=⟨g,1,G⟩) h _).setCell (p:=⟨g,2,G⟩) h _).setCell (p:=⟨g,3,G⟩) h _
theorem zjv(L:LV)(s:Sg):zaU false (vs ⟨0,qP⟩) L s=vs (stL L s):=by
 unfold zaU stL;cases kV L s<;>rfl
theorem Ju{w X:T}{gb:Nat}{Gl:List (Sg×Unit)}{s:Sg}(hn:zV Gl s=G)(b:xh XD w gb Gl)(a:C w.1.size w X)(c:s.wf):(Instr.lookup 138 (.map (E gb)) (.agg #[I O s.t,I O s.se,I O s.we]) true).run prog X=.ok (.tuple #[.agg #[],.bool false]) X:=by
 have h:=km Y8 true (b.later a) c
 rw[hn]at h
 exact h
theorem Jv{w X:T}{gb:Nat}{Gl:List (Sg×Unit)}{s:Sg}(hn:zV Gl s=E ())(b:xh XD w gb Gl)(a:C w.1.size w X)(c:s.wf):(Instr.lookup 138 (.map (E gb)) (.agg #[I O s.t,I O s.se,I O s.we]) true).run prog X=.ok (.tuple #[.agg #[],.bool true]) X:=by
 have h:=km Y8 true (b.later a) c
 rw[hn]at h
 exact h
theorem Ko{w X:T}{lb:Nat}{L:LV}{s:Sg}{v:SV}(hv:v=stL L s)(b:yj w lb L)(a:C w.1.size w X)(c:s.wf):(Instr.lookup 135 (.map (E lb)) (.agg #[I O s.t,I O s.se,I O s.we]) false).run prog X=.ok (.agg #[I O v.st,I O v.cl.cnt,I O v.cl.sum,I z6 v.cl.mn,I z6 v.cl.mx]) X:=by
 subst hv
 have:=zcl false (b.later a) c
 rw[zjv]at this
 exact this
theorem zdA{w:T}{b:Nat}{c:Cf}{tv:z5}{lb gb:Nat}{Gl:List (Sg×Unit)}{L:LV}(h:xJ w b c tv lb gb Gl L)(s:Sg)(hs:s.wf)(y:zV Gl s=G):
  Calls prog 119 #[.pointer (E ⟨b,0,G⟩),.agg #[I O s.t,I O s.se,I O s.we]] w fun e w'=>e=.returned (.tuple #[I O (stL L s).st,clV (stL L s).cl])/\C w.1.size w w':=by
 obtain⟨v,hv⟩:∃v,v=stL L s:=⟨_,rfl⟩
 rw[<-hv]
 have q:=ze hv
 clear hv
 have z:=h.lt
 obtain⟨-,-,-,-,-,-,-,Q,S⟩:=h.cells
 have H:=ze h
 obtain⟨P,y1,a,yz⟩:=box2 w (.cells #[I O s.t,I O s.se,I O s.we] 137) (.cells #[I O 0,I O 0,I z6 0,I z6 0] 114)
 have k:=ze hs
 have g:=ze y
 clear h hs y
 go_enter func119,ntmps119
 go_wp2_with fail
 generalize((w.alloc (.cells #[I O s.t,I O s.se,I O s.we] 137)).alloc (.cells #[I O 0,I O 0,I z6 0,I z6 0] 114))=X at*
 obtain⟨k0,k1,k2,-⟩:=zc P
 have x7:=(a.cell (p:=⟨b,7,G⟩) z).trans Q
 have x8:=(a.cell (p:=⟨b,8,G⟩) z).trans S
 have F:=Ju (ud g) (X:=X) (ud H).gone a (ud k)
 have J:=Ju (ud g) (X:=X.drew) (ud H).gone a.drew (ud k)
 have K:=fun o=>Ju (ud g) (X:=X.alloc o) (ud H).gone (a.alloc a.size o) (ud k)
 have M:=fun o=>Ju (ud g) (X:=(X.alloc o).drew) (ud H).gone (a.alloc a.size o).drew (ud k)
 have N:=fun o=>Ju (ud g) (X:=X.drew.alloc o) (ud H).gone (a.drew.alloc a.drew.size o) (ud k)
 have Y1:=ze y1
 have D:=ze yz
 have n:=ze a
 have Y0:=ze P
 clear P y1 yz a Q S
 have x:b<X.1.size:=by have:=ud D;omega
 have l:w.1.size<X.1.size:=by have:=ud D;omega
 have i:w.1.size+1<X.1.size:=by have:=ud D;omega
 go_region
 have f:C X.1.size X ((X.alloc (.cells #[] 221)).drew):=((R _ _).alloc (U _) _).drew
 have d:C w.1.size w ((X.alloc (.cells #[] 221)).drew):=(ud n).trans (f.mono (ud n).size)
 generalize((X.alloc (.cells #[] 221)).drew)=Y at*
 have m0:=(f.cell (p:=⟨w.1.size,0,G⟩) l).trans k0
 have m1:=(f.cell (p:=⟨w.1.size,1,G⟩) l).trans k1
 have m2:=(f.cell (p:=⟨w.1.size,2,G⟩) l).trans k2
 have y7:=(f.cell (p:=⟨b,7,G⟩) x).trans x7
 have V:=(f.block (w.1.size+1) i).trans (ud Y1)
 clear F J K M N k0 k1 k2 x7 x8
 have a2:=f.size
 have x:b<Y.1.size:=by omega
 have l:w.1.size<Y.1.size:=by omega
 have i:w.1.size+1<Y.1.size:=by omega
 have F:=Ko (hv:=ud q) (X:=Y) (ud H).live d (ud k)
 have J:=Ko (hv:=ud q) (X:=Y.drew) (ud H).live d.drew (ud k)
 have K:=fun o=>Ko (hv:=ud q) (X:=Y.alloc o) (ud H).live (d.alloc d.size o) (ud k)
 have M:=fun o=>Ko (hv:=ud q) (X:=(Y.alloc o).drew) (ud H).live (d.alloc d.size o).drew (ud k)
 have N:=fun o=>Ko (hv:=ud q) (X:=Y.drew.alloc o) (ud H).live (d.drew.alloc d.drew.size o) (ud k)
 have r:=ze d
 have E1:=ze V
 clear f d V
 go_wp2_with fail
 go_region
 have m:C Y.1.size Y ((Y.alloc (.cells #[I O v.st,I O v.cl.cnt,I O v.cl.sum,I z6 v.cl.mn,I z6 v.cl.mx] 131)).drew):=((R _ _).alloc (U _) _).drew
 have u:((Y.alloc (.cells #[I O v.st,I O v.cl.cnt,I O v.cl.sum,I z6 v.cl.mn,I z6 v.cl.mx] 131)).drew).1[Y.1.size]?=E (.cells #[I O v.st,I O v.cl.cnt,I O v.cl.sum,I z6 v.cl.mn,I z6 v.cl.mx] 131 (0,0)):=zo _ _
 generalize((Y.alloc (.cells #[I O v.st,I O v.cl.cnt,I O v.cl.sum,I z6 v.cl.mn,I z6 v.cl.mx] 131)).drew)=Z at*
 obtain⟨z0,z1,z2,z3,z4,-⟩:=zc u
 have A:=(m.block (w.1.size+1) i).trans (ud E1)
 obtain⟨r0,r1,r2,r3,-⟩:=zc A
 have rf:=fun j=>zD A j
 have a3:(w.1.size+1==Y.1.size)=false:=by simp;omega
 have W:(Y.1.size==w.1.size+1)=false:=by simp;omega
 have a0:¬w.1.size+1=Y.1.size:=by omega
 have a1:¬Y.1.size=w.1.size+1:=by omega
 have EZ:=ze A
 have B:=ze m
 clear F J K M N m0 m1 m2 y7 u A m
 go_wp2_with fail
 go_region
 go_wp2_with fail
 have hf:=zgo (ud EZ) (I O v.cl.cnt) (I O v.cl.sum) (I z6 v.cl.mn) (I z6 v.cl.mx)
 refine bodyPost_ret (v:=.tuple #[I O v.st,.agg #[I O v.cl.cnt,I O v.cl.sum,I z6 v.cl.mn,I z6 v.cl.mx]]) (jJ results119 _ _ (w.1.size+1) _ _ _ _ _ rfl rfl hf underlying114 rfl (by kernel_rfl)) rfl ?_
 exact⟨rfl,((ud r).trans ((ud B).mono (ud r).size)).trans (QJ (Nat.le_succ _) _ _ _ _)⟩
theorem zdz{w:T}{b:Nat}{c:Cf}{tv:z5}{lb gb:Nat}{Gl:List (Sg×Unit)}{L:LV}(h:xJ w b c tv lb gb Gl L)(s:Sg)(B:s.wf)(m:zV Gl s=E ()):
  Calls prog 119 #[.pointer (E ⟨b,0,G⟩),.agg #[I O s.t,I O s.se,I O s.we]] w fun e w'=>e=.returned (.tuple #[I O 4,clV qP])/\C w.1.size w w':=by
 have n:=h.lt
 obtain⟨-,-,-,-,-,-,-,z,A⟩:=h.cells
 have H:=ze h
 obtain⟨y,D,a,F⟩:=box2 w (.cells #[I O s.t,I O s.se,I O s.we] 137) (.cells #[I O 0,I O 0,I z6 0,I z6 0] 114)
 have l:=ze B
 have d:=ze m
 clear h B m
 go_enter func119,ntmps119
 go_wp2_with fail
 generalize((w.alloc (.cells #[I O s.t,I O s.se,I O s.we] 137)).alloc (.cells #[I O 0,I O 0,I z6 0,I z6 0] 114))=X at*
 obtain⟨k0,k1,k2,-⟩:=zc y
 have x7:=(a.cell (p:=⟨b,7,G⟩) n).trans z
 have x8:=(a.cell (p:=⟨b,8,G⟩) n).trans A
 have M:=Jv (ud d) (X:=X) (ud H).gone a (ud l)
 have N:=Jv (ud d) (X:=X.drew) (ud H).gone a.drew (ud l)
 have P:=fun o=>Jv (ud d) (X:=X.alloc o) (ud H).gone (a.alloc a.size o) (ud l)
 have Q:=fun o=>Jv (ud d) (X:=(X.alloc o).drew) (ud H).gone (a.alloc a.size o).drew (ud l)
 have S:=fun o=>Jv (ud d) (X:=X.drew.alloc o) (ud H).gone (a.drew.alloc a.drew.size o) (ud l)
 have K:=ze D
 have x:=ze F
 have k:=ze a
 have Y0:=ze y
 clear y D F a z A
 have W:b<X.1.size:=by have:=ud x;omega
 have a0:w.1.size<X.1.size:=by have:=ud x;omega
 have g:w.1.size+1<X.1.size:=by have:=ud x;omega
 go_region
 have f:C X.1.size X ((X.alloc (.cells #[] 221)).drew):=((R _ _).alloc (U _) _).drew
 have q:C w.1.size w ((X.alloc (.cells #[] 221)).drew):=(ud k).trans (f.mono (ud k).size)
 generalize((X.alloc (.cells #[] 221)).drew)=Y at*
 have r:=(f.block (w.1.size+1) g).trans (ud K)
 clear M N P Q S k0 k1 k2 x7 x8
 have V:=f.size
 have g:w.1.size+1<Y.1.size:=by omega
 obtain⟨r0,r1,r2,r3,-⟩:=zc r
 have rf:=fun j=>zD r j
 have u:=ze q
 have J:=ze r
 clear f q r
 go_wp2_with fail
 have Z:=xm (i:=3) (xm (i:=2) (xm (i:=1) (xm (i:=0) (ud J) (I O 0)) (I O 0)) (I z6 0)) (I z6 0)
 refine bodyPost_ret (v:=.tuple #[I O 4,.agg #[I O 0,I O 0,I z6 0,I z6 0]]) (jJ results119 _ _ (w.1.size+1) _ _ _ _ _ rfl rfl Z underlying114 rfl (by kernel_rfl)) rfl ?_
 exact⟨rfl,(ud u).trans (below4 (Nat.le_succ _) _ _ _ _)⟩
def stG(Gl:List (Sg×Unit))(L:LV)(s:Sg):SV:=match zV Gl s with
 |none=>stL L s
 |some _=>⟨4,qP⟩
theorem JI{w:T}{b:Nat}{c:Cf}{tv:z5}{lb gb:Nat}{Gl:List (Sg×Unit)}{L:LV}(h:xJ w b c tv lb gb Gl L)(s:Sg)(d:s.wf):
  Calls prog 119 #[.pointer (E ⟨b,0,G⟩),.agg #[I O s.t,I O s.se,I O s.we]] w fun e w'=>e=.returned (.tuple #[I O (stG Gl L s).st,clV (stG Gl L s).cl])/\C w.1.size w w':=by
 unfold stG
 cases a:zV Gl s with
 |none=>exact zdA h s d a
 |some u=>exact zdz h s d a
theorem Qb{w:T}{b:Nat}{c:Cf}{tv:z5}{lb gb:Nat}{Gl:List (Sg×Unit)}{L:LV}(h:xJ w b c tv lb gb Gl L)(s:Sg)(g:s.wf):
  Calls prog 167 #[.pointer (E ⟨b,0,G⟩),.agg #[I O s.t,I O s.se,I O s.we]] w fun e w'=>e=.returned (.bool ((stG Gl L s).st==0))/\C w.1.size w w':=by
 have a:∀o,C w.1.size w (w.alloc o):=fun o=>(R _ _).alloc (U _) _
 have f:=fun o=>ze (JI (h.later (a o)) s g)
 unfold clV at f
 clear h g
 generalize stG Gl L s=v at*
 go_enter func167,ntmps167
 go_wp2_with fail
 refine(ud (f _)).mono ?_
 rintro e i ⟨rfl,d⟩
 go_wp2_with fail
 go_ret
 exact⟨rfl,((a _).trans (d.mono (a _).size)).alloc (z7 (a _).size d.size) _⟩
theorem zkF(v:SV)(W:T):(Instr.field 131 (.agg #[I O v.st,I O v.cl.cnt,I O v.cl.sum,I z6 v.cl.mn,I z6 v.cl.mx]) 0).run prog W=.ok (I O v.st) W:=by kernel_rfl
theorem Z1{w:T}{b:Nat}{c:Cf}{tv:z5}{lb gb:Nat}{Gl:List (Sg×Unit)}{L:LV}(h:xJ w b c tv lb gb Gl L)(s:Sg)(k:s.wf):
  Calls prog 147 #[.pointer (E ⟨b,0,G⟩),.agg #[I O s.t,I O s.se,I O s.we]] w fun e w'=>e=.returned (.bool ((stL L s).st==2))/\C w.1.size w w':=by
 obtain⟨v,hv⟩:∃v,v=stL L s:=⟨_,rfl⟩
 rw[<-hv]
 have i:=h.lt
 obtain⟨-,-,-,-,-,-,-,j,-⟩:=h.cells
 have g:∀o,C w.1.size w (w.alloc o):=fun o=>(R _ _).alloc (U _) _
 have a:=g (.cells #[I O s.t,I O s.se,I O s.we] 137)
 have l:=zo w (.cells #[I O s.t,I O s.se,I O s.we] 137)
 have r:=zF w (.cells #[I O s.t,I O s.se,I O s.we] 137)
 have f:=fun X m=>Ko (hv:=hv) (X:=X) h.live m k
 clear h k hv
 go_enter func147,ntmps147
 go_wp2_with fail
 generalize(w.alloc (.cells #[I O s.t,I O s.se,I O s.we] 137))=X at*
 obtain⟨z,A,B,-⟩:=zc l
 have D:=(a.cell (p:=⟨b,7,G⟩) i).trans j
 have x:=f X a
 have y:=f X.drew a.drew
 have u:=zkF v
 have q:w.1.size<X.1.size:=by omega
 have n:b<X.1.size:=by omega
 have d:=ze a
 clear f l r a j
 go_region
 go_wp2_with fail
 go_ret
 exact⟨rfl,(ud d).drew⟩
attribute [local go_sem] Oper.semAt_some
def K0(c:Cf)(t st:Int)(k:Nat):List (Int×Int):=((List.range k).filter (fun i=>c.F i==t)).map (fun i:Nat=>((i:Int),st/c.W i))
theorem J1(c:Cf)(t st:Int)(k:Nat):K0 c t st (k+1)=if c.F k=t then K0 c t st k++[((k:Int),st/c.W k)]else K0 c t st k:=by
 unfold K0
 rw[List.range_succ,List.filter_append,List.map_append]
 by_cases h:c.F k=t<;>simp[h]
theorem zbB(c:Cf)(t st:Int)(k:Nat):(K0 c t st k).length<=k:=by
 unfold K0;rw[List.length_map];exact z7 (List.length_filter_le _ _) (by simp)
abbrev WP:={p:Int×Int//yS p.1/\yS p.2}
noncomputable def YY (p:Int×Int):WP:=by classical exact if h:yS p.1/\yS p.2 then⟨p,h⟩else⟨(0,0),by unfold yS;simp⟩
theorem zal{p:Int×Int}(h:yS p.1/\yS p.2):(YY p).1=p:=by unfold YY;rw[dif_pos h]
theorem zel{c:Cf}(b:c.ok){st:Int}(a:0<=st/\st<=1000000000){k:Nat}(d:k<c.n):yS (((k:Int),st/c.W k):Int×Int).1/\yS (((k:Int),st/c.W k):Int×Int).2:=by
 obtain⟨h,i⟩:=b.W k d
 have g:=b.n4
 have e:0<=st/c.W k:=Int.ediv_nonneg a.1 (by omega)
 have f:st/c.W k<=st:=Int.ediv_le_self _ a.1
 unfold yS;simp only;omega
structure AR(W:T)(q Bs:Nat)(c:Cf)(a:Option Addr)(cap:Nat)(t st:Int):Prop where
 b0:W.1[q]?=E (.cells #[I O c.s,I O c.le,I O c.la,I O c.wi,I O c.ke,I O c.qu,.slice a c.n cap] 80 (0,0))
 b1:W.1[q+1]?=E (.cells #[I O t] 3 (0,0))
 b2:W.1[Bs]?=E (.cells #[I O st] 3 (0,0))
 ts:TS W a c.n c.F c.W c.K
theorem AR.later{W e:T}{q d:Nat}{c:Cf}{a:Option Addr}{cap:Nat}{t st:Int}(h:AR W q d c a cap t st)(b:C W.1.size W e):AR e q d c a cap t st:=
 ⟨(b.block _ (zd h.b0)).trans h.b0,(b.block _ (zd h.b1)).trans h.b1,(b.block _ (zd h.b2)).trans h.b2,h.ts.below b⟩
theorem Kn(c:Cf)(z:c.ok)(a:Option Addr)(cap:Nat)(t we:Int)(k: -1<=t)(l:t<c.n)(Q:0<=we/\we<=100000)(w:T)(h:TS w a c.n c.F c.W c.K):
  Calls prog 197 #[.agg #[I O c.s,I O c.le,I O c.la,I O c.wi,I O c.ke,I O c.qu,.slice a c.n cap],I O t,I O we] w fun e w'=>∃r,e=.returned (.func (.func 220) #[] #[.pointer (E ⟨w.1.size,0,G⟩),.pointer (E ⟨w.1.size+1,0,G⟩),.pointer (E ⟨r,0,G⟩)])/\AR w' w.1.size r c a cap t (we*c.wh t)/\w.1.size<=r/\C w.1.size w w':=by
 obtain⟨B,D,g,J⟩:=box2 w (.cells #[I O c.s,I O c.le,I O c.la,I O c.wi,I O c.ke,I O c.qu,.slice a c.n cap] 80) (.cells #[I O t] 3)
 obtain⟨b,m⟩:=z.wh k l
 have j:0<=we*c.wh t/\we*c.wh t<=1000000000:=by
  constructor
  ·exact Int.mul_nonneg (by omega) (by omega)
  ·have:=Int.mul_le_mul (show we<=100000 by omega) m (by omega) (by omega);omega
 have A:=z.n4
 have d:=ze (ko c.s c.le c.la c.wi c.ke c.qu a c.n cap c.F c.W c.K t k l A _ (h.below g))
 rw[show xd c.wi c.W t=c.wh t from rfl]at d
 have y:=ze h
 clear h z
 obtain⟨v,hv⟩:∃v,c.wh t=v:=⟨_,rfl⟩
 rw[hv]at d j b m ⊢
 clear hv
 obtain⟨V,-⟩:=zc D
 obtain⟨Y,Z,x2,x3,x4,x5,x6,-⟩:=zc B
 have L:=ze B
 have M:=ze D
 have N:=ze J
 have x:=ze g
 have H:wrap64 (we*v)=we*v:=by unfold wrap64;omega
 clear B D J g
 go_enter func197,ntmps197
 go_wp2_with fail
 generalize((w.alloc (.cells #[I O c.s,I O c.le,I O c.la,I O c.wi,I O c.ke,I O c.qu,.slice a c.n cap] 80)).alloc (.cells #[I O t] 3))=X at*
 refine(ud d).mono ?_
 rintro e p ⟨rfl,i⟩
 have u:=ze i
 clear i
 go_wp2_with fail
 go_ret
 have q:=ud u
 have S:X.1.size=w.1.size+2:=ud N
 have P:=q.size
 have b:C w.1.size w p:=(ud x).trans (q.mono (by omega))
 have f:C p.1.size p (p.alloc (.cells #[I O (we*v)] 3)):=(R _ _).alloc (U _) _
 have o:=b.trans (f.mono b.size)
 refine⟨p.1.size,rfl,⟨(f.block _ (by omega)).trans ((q.block _ (by omega)).trans (ud L)),(f.block _ (by omega)).trans ((q.block _ (by omega)).trans (ud M)),zo _ _,(ud y).below o⟩,b.size,o⟩
theorem zcF(l q s:Nat)(c:Cf)(N:c.ok)(a:Option Addr)(cap:Nat)(t st:Int)(a1:0<=st/\st<=1000000000)(Kp:T->T->Prop)(D:∀A B,Kp A B->AR A q s c a cap t st->AR B q s c a cap t st)(H:∀A B,Kp A B->A.1.size<=B.1.size)(J Jx:List WP->T->Prop)
  (hY:∀g x V,J g V->g.length<c.n->YieldAt Fence.wide 5 prog l #[I O x.1.1,I O x.1.2] V fun e M=>(e=.returned (.bool true)/\J (g++[x]) M/\Kp V M)\/(e=.returned (.bool false)/\Jx (g++[x]) M/\Kp V M))
  (W:T) (hJ:OwnFrom W.1.size J) (hR:AR W q s c a cap t st) (h0:J [] W):
  CallsIn Fence.wide 6 prog 220 #[.func (.yield l) #[] #[],.pointer (E ⟨q,0,G⟩),.pointer (E ⟨q+1,0,G⟩),.pointer (E ⟨s,0,G⟩)] W fun e W'=>(∃v,e=.returned v)/\
   ((∃xs,xs=(K0 c t st c.n).map YY/\J xs W')\/(∃g,True/\Jx g W')):=by
 obtain⟨-,-,-,-,-,-,q6,-⟩:=zc hR.b0
 have a7:=N.n4
 have a6:=N.n1
 have HC:=ze N
 have HR:=ze hR
 have HJ:=ze hJ
 have HY:=ze hY
 have S:=ze D
 have X:=ze H
 clear hR hJ hY D N H
 refine callsIn_of_wp func220 rfl trivial ?_ rfl
 simp only[ntmps220,List.size_toArray,List.length_cons,List.length_nil,Nat.reduceAdd,Nat.reduceSub,Array.replicate_succ,Array.replicate_zero,List.push_toArray,List.append_toArray,List.nil_append,List.cons_append]
 gi_wp2
 gi_loopw [5,6,11] (fun _ _ i wr=>∃k:Nat,k<=c.n/\i=I O k/\J ((K0 c t st k).map YY) wr/\AR wr q s c a cap t st/\W.1.size<=wr.1.size)
  (fun _ _ i _=>c.n-(intOf i).toNat)
 case atStart=>exact⟨0,Nat.zero_le _,rfl,h0,ud HR,U _⟩
 case round=>
  obtain⟨k,hk,rfl,p,f,a4⟩:=hrel
  by_cases m:k<c.n
  ·have a3:(k:Int)<c.n:=by omega
   obtain⟨b,ac,ha,a5,L⟩:=f.ts (by omega)
   obtain⟨f0,f1,f2⟩:=L k m
   obtain⟨q1,-⟩:=zc f.b1
   obtain⟨q2,-⟩:=zc f.b2
   have a8:=zd f.b1
   have a9:=zd f.b2
   have u:=ze f
   obtain⟨w1,w2⟩:=(ud HC).W k m
   have aa:¬c.W k=0:=by omega
   have HA:=ze ha
   subst ha
   clear f L
   by_cases r:c.F k=t
   ·have Z:(c.F k==t)=true:=by simpa using r
    have d:C wr.1.size wr (wr.alloc (.cells #[I O (c.F k),I O (c.W k),I O (c.K k)] 66)):=(R _ _).alloc (U _) _
    have w:=zX (ud HJ) p d
    obtain⟨fn,tmps,assign,body,hy,a0⟩:=ud HY _ (YY ((k:Int),st/c.W k)) _ w (by rw[List.length_map];exact Nat.lt_of_le_of_lt (zbB c t st k) m)
    rw[zal (zel (ud HC) a1 m)]at hy
    dsimp only at hy
    have HF:=ze r
    have o:=ze ((ud u).later d)
    have a2:=d.size
    clear r w d
    gi_wp2
    refine a0.mono ?_
    rintro e W3 (⟨rfl,y,j⟩|⟨rfl,z,j⟩)
    ·have Y:=ze (ud S _ _ j (ud o))
     have ab:=ud X _ _ j
     have Q:Hid (J ((K0 c t st (k+1)).map YY) W3):=by show J _ W3;rw[J1,if_pos (ud HF),List.map_append,List.map_singleton];exact y
     clear y j
     gi_wp2
     go_roundw
     case rel=>exact⟨k+1,by omega,by simp,ud Q,ud Y,by omega⟩
     case measure=>simp[intOf];omega
    ·gi_wp2
     refine bodyPost_ret (results_none rfl _ _ _) rfl ?_
     exact⟨⟨_,rfl⟩,.inr ⟨_,trivial,z⟩⟩
   ·have Z:(c.F k==t)=false:=by simpa using r
    have d:C wr.1.size wr (wr.alloc (.cells #[I O (c.F k),I O (c.W k),I O (c.K k)] 66)):=(R _ _).alloc (U _) _
    have P:Hid (J ((K0 c t st (k+1)).map YY) (wr.alloc (.cells #[I O (c.F k),I O (c.W k),I O (c.K k)] 66))):=by show J _ _;rw[J1,if_neg r];exact zX (ud HJ) p d
    have o:=ze ((ud u).later d)
    have a2:=d.size
    clear r d
    gi_wp2
    refine⟨fun _ h=>(by cases h),?_⟩
    gi_wp2
    go_roundw
    case rel=>exact⟨k+1,by omega,by simp,ud P,ud o,by omega⟩
    case measure=>simp[intOf];omega
  ·obtain rfl:k=c.n:=by omega
   gi_wp2
   go_end0
   exact⟨⟨_,rfl⟩,.inl ⟨_,rfl,p⟩⟩
theorem zem(q b:Nat)(c:Cf)(r:c.ok)(a:Option Addr)(cap:Nat)(t st:Int)(f:0<=st/\st<=1000000000)(Kp:T->T->Prop)(d:∀A B,Kp A B->AR A q b c a cap t st->AR B q b c a cap t st)(e:∀A B,Kp A B->A.1.size<=B.1.size)(m:Nat)(w:T)(k:AR w q b c a cap t st):
  YK Fence.wide 6 prog 220 #[.pointer (E ⟨q,0,G⟩),.pointer (E ⟨q+1,0,G⟩),.pointer (E ⟨b,0,G⟩)] (fun x:WP=>#[I O x.1.1,I O x.1.2]) Kp (fun xs=>xs=(K0 c t st c.n).map YY) (fun _=>True) c.n m w:=
 fun l J g W o _ i j p h=>zcF l q b c r a cap t st f Kp d e J g p W i (k.later o) h
theorem J2:∀args w,(callFunc 220 args).run prog w=.ok (.enter 220 args) w:=enters_of func220 (by kernel_rfl) rfl
def xW(c:Cf)(k:Nat):Int:=c.wh (k:Int)/c.wh (c.F k)
theorem ZD{c:Cf}(a:c.ok){k:Nat}(f:k<c.n):0<=xW c k/\xW c k<=1000:=by
 obtain⟨g,h⟩:=a.wh (t:=(k:Int)) (by omega) (by omega)
 obtain⟨d,e⟩:=a.F k f
 obtain⟨i,j⟩:=a.wh d e
 unfold xW
 constructor
 ·exact Int.ediv_nonneg (by omega) (by omega)
 ·have:=Int.ediv_le_self (b:=c.wh (c.F k)) (show 0<=c.wh (k:Int) by omega);omega
theorem zcZ(c:Cf)(r:c.ok)(a:Option Addr)(cap:Nat)(k:Nat)(B:k<c.n)(we:Int)(P:0<=we/\we<=100000)(w:T)(f:TS w a c.n c.F c.W c.K):Calls prog 190 #[.agg #[I O c.s,I O c.le,I O c.la,I O c.wi,I O c.ke,I O c.qu,.slice a c.n cap],I O k,I O we] w fun e w'=>e=.returned (.tuple #[I O (c.F k),I O (we*xW c k),I O ((we+1)*xW c k)])/\C w.1.size w w':=by
 have y:=r.n4
 obtain⟨Y,Z⟩:=r.F k B
 obtain⟨a4,a5⟩:=r.wh (t:=(k:Int)) (by omega) (by omega)
 obtain⟨a6,a7⟩:=r.wh Y Z
 obtain⟨d,x⟩:=ZD r B
 obtain⟨H,J⟩:=P
 have j:C w.1.size w (w.alloc (.cells #[I O c.s,I O c.le,I O c.la,I O c.wi,I O c.ke,I O c.qu,.slice a c.n cap] 80)):=(R _ _).alloc (U _) _
 have a2:0<=we*xW c k/\we*xW c k<=100000000:=⟨Int.mul_nonneg H d,by have:=Int.mul_le_mul J x d (by omega);omega⟩
 have a3:0<=(we+1)*xW c k/\(we+1)*xW c k<=100001000:=⟨Int.mul_nonneg (by omega) d,by have:=Int.mul_le_mul (show we+1<=100001 by omega) x d (by omega);omega⟩
 have p:=fun W z=>ze (ko c.s c.le c.la c.wi c.ke c.qu a c.n cap c.F c.W c.K (k:Int) (by omega) (by omega) y W (f.below (w':=W) z))
 have m:=fun W z=>ze (ko c.s c.le c.la c.wi c.ke c.qu a c.n cap c.F c.W c.K (c.F k) Y Z y W (f.below (w':=W) z))
 have S:xd c.wi c.W (k:Int)=c.wh (k:Int):=rfl
 have V:xd c.wi c.W (c.F k)=c.wh (c.F k):=rfl
 simp only[S]at p
 simp only[V]at m
 have HM:Hid (c.wh (k:Int)/c.wh (c.F k)=xW c k):=rfl
 have q0:=zo w (.cells #[I O c.s,I O c.le,I O c.la,I O c.wi,I O c.ke,I O c.qu,.slice a c.n cap] 80)
 have qz:=zF w (.cells #[I O c.s,I O c.le,I O c.la,I O c.wi,I O c.ke,I O c.qu,.slice a c.n cap] 80)
 obtain⟨y0,y1,y2,y3,y4,y5,y6,-⟩:=zc q0
 obtain⟨b,Q,rfl,a0,v⟩:=f.below j (by omega)
 obtain⟨x0,-,-⟩:=v k B
 have a1:(k:Int)<c.n:=by omega
 have g:=ze j
 have BZ:=ze qz
 clear v f j S V q0
 generalize xW c k=M at*
 generalize c.wh (k:Int)=wk at*
 generalize c.wh (c.F k)=wf at*
 go_enter func190,ntmps190
 go_wp2_with fail
 have q1:w.1.size<w.1.size+1:=by omega
 have q2:b<w.1.size+1:=by omega
 generalize(w.alloc (.cells #[I O c.s,I O c.le,I O c.la,I O c.wi,I O c.ke,I O c.qu,.slice (E ⟨b,Q,G⟩) c.n cap] 80))=X at*
 generalize hN:w.1.size+1=N at*
 have L:Nonempty (zm N X):=zm.some _ _
 have D:=fun(u:zm N X) b o h=>u.cell b o h
 have q:N<=X.1.size:=by rw[ud BZ];exact U _
 have l:=ze q
 have i:Hid (w.1.size<=N):=by show w.1.size<=N;omega
 clear q hN
 refine zh N (by kernel_rfl) (by kernel_rfl) ?_
 repeat(go_big_quiet_step (first
  |(go_at_call 206;first|(with_reducible exact Calls.later (ud l) (ud (p _ ((ud g).trans (Below.mono (Subtype.property _) (ud i))))))|(with_reducible exact Calls.later (ud l) (ud (m _ ((ud g).trans (Below.mono (Subtype.property _) (ud i)))))))))
 refine wpQuiet_nil ?_
 rintro⟨w1,A⟩
 clear D L
 dsimp only
 go_wp2_with fail
 go_ret3
 have hm:=ud HM
 rw[hm]
 have r1:wrap64 (we*M)=we*M:=by unfold wrap64;omega
 have r2:wrap64 ((we+1)*M)=(we+1)*M:=by unfold wrap64;omega
 rw[r1,r2]
 exact⟨rfl,(ud g).trans (A.mono (ud i))⟩
end Go.Proofs.YtpbimdkclnekeaaGreat
