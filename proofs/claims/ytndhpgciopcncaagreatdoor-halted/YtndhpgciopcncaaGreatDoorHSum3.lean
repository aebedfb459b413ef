import Derived.Test.YtndhpgciopcncaaGreatDoorHWhr0
import Derived.Maps.OwnIn
import Derived.OwnWalkIn
open Option renaming some → E
open Nat renaming le_refl → Y
open Go renaming World → Z
open Go.RowKit.Below renaming refl → G
set_option linter.unusedVariables false
set_option maxRecDepth 100000
set_option maxHeartbeats 2000000
open Go.Proofs.Tryz
namespace Go.Proofs.YtndhpgciopcncaaGreatDoor
open Go.ChangeMaps (setBlock)
open Go.RowKit Go.Maps Go.Shelf
variable {xs:List Value} {N base m n size:Nat} {ex:Nat->Prop} {v:Value} {W W':Z}
attribute [local go_sem] Oper.semAt_some
theorem zjF{α:Type}(b:α->Sg)(gf:Nat)(lb:Array Value)(eg:∀args w,(callFunc gf args).run prog w=.ok (.enter gf args) w){S:List α->Prop}(f:α->Int)(w:Z)(hn:n<=w.1.size)(R:∀(x:α) (W:Z),Below w.1.size w W->Calls prog 182 #[.agg #[I (b x).t,I (b x).sr,I (b x).wn]] W fun e W'=>e=.returned (I (f x))/\Below W.1.size W W')(m:jx ex n prog gf lb (fun x:α=>#[.agg #[I (b x).t,I (b x).sr,I (b x).wn]]) S N w):
  Calls prog 181 #[.func (.func gf) #[] lb,.func (.func 182) #[] #[]] w fun e w'=>∃xs,S xs/\e=.returned (I (vN (xs.map f)))/\Below w.1.size w w':=by
 have C:=ze R;have H:=ze m;have a1:=ze eg;obtain⟨b1,b2,P,bz⟩:=box2 w (.cells #[.func (.func 182) #[] #[]] 261) Vy;clear R m eg;refine(callsIn_wide (n:=7)).1 ?_;refine callsIn_of_wp_marks func181 rfl trivial ?_ rfl;simp only[ntmps181,sZz,Nat.reduceAdd,Nat.reduceSub];have B1:=ze b1;have B2:=ze b2;have q:=ze P;have BZ:=ze bz;clear b1 b2 P bz;gi_wp2;obtain⟨W0,L⟩:∃W0,((w.alloc (.cells #[.func (.func 182) #[] #[]] 261)).alloc Vy)=W0:=⟨_,rfl⟩;rw[L]at B1 B2 q BZ ⊢;clear L;have hz:W0.1.size=w.1.size+2:=ud BZ;refine yg (F:=Fence.wide) (n:=7) rfl (by omega) (gf:=gf) (lb:=lb) rfl trivial (ud a1) (ud H (w.1.size+4) (by omega)) (by omega) (fun h k=>h.trans k) (fun W o o' h hc hw=>KX.putObj o' (by omega) (by omega) h hw) (ud q) (fun _=>rfl)
  (fun d W=>W.1[w.1.size]?=E (.cells #[.func (.func 182) #[] #[]] 261 (0,0))/\W.1[w.1.size+1]?=E (.cells #[I (vN (d.map f))] 3 (0,0))/\Below w.1.size w W)
  (fun _ _ _=>False)
  (fun s A B row j Q y=>⟨zv j.1 Q (fun r e=>(y r e).2),zv j.2.1 Q (fun r e=>(y r e).2),j.2.2.grown Q (j.2.2.size) (fun k e=>by have:=(y k e).1;omega)⟩)
  (fun _ _ _ _ _ j _ _=>j)
  ⟨ud B1,ud B2,ud q⟩
  (fun x a' W=>∃v,w.1.size+2<=v/\W.1[v]?=E (.cells #[I (b x).t,I (b x).sr,I (b x).wn] 146 (0,0))/\a'={tmps:=#[.func (.func gf) #[] lb,.func (.func 182) #[] #[],undef,(O w.1.size),I 0,(O (w.1.size+1)),(O v),.func (.func gf) #[] lb,.agg #[I (b x).t,I (b x).sr,I (b x).wn],undef,undef,undef,undef,undef,undef],defers:=[]})
  (fun x a' s A B row j Q y=>by
   obtain⟨v,h1,h2,h3⟩:=j;exact⟨v,h1,zv h2 Q (fun r e=>(y r e).2),h3⟩) ?assign ?body ?done ?stop
 case assign=>
  rintro l d x W K ⟨u,i2,i3⟩ J;have V:=i3.size;have a4:=zd i2;have HK:=ze J;clear J;gi_wp2;have M:=(G W.1.size W).alloc (Y _) (.cells #[I (b x).t,I (b x).sr,I (b x).wn] 146);refine ud HK _ _ (zo M) (KX.of_below M) ⟨(Below.heap_alloc _ _ _ (by omega)).trans u,(Below.heap_alloc _ _ _ (by omega)).trans i2,i3.alloc V _⟩ ⟨W.1.size,by omega,zq _ _,rfl⟩
 case body=>
  rintro l d x a' W hl ⟨r,y⟩ ⟨u,i2,i3⟩ ⟨v,a2,X,rfl⟩ a5;have V:=i3.size;have a3:=zd X;have T:=zd i2;obtain⟨c1,-⟩:=zc u;obtain⟨c2,-⟩:=zc i2;have f2:W.frozen? (U (w.1.size+1) 0)=false:=zw i2 0;obtain⟨x0,x1,x2,-⟩:=zc X;have HI:=ze i2;have z:=ze u;have g:=ze i3;have HX:=ze X;have a6:prog.follows .mixedOrders=true:=by kernel_rfl
  have HC:=ze (ud C x W i3);have a0:=ze (ud C x W.drew i3.drew);clear u i2 i3 X;gi_wp2
  gi_region_with_o (refine⟨trivial,?_⟩;gi_at_call 182;(first|refine(CallsIn.inRound l (callsIn_wide.2 (ud HC))).mono ?_|refine(CallsIn.inRound l (callsIn_wide.2 (ud a0))).mono ?_);rintro e w' ⟨rfl,i⟩;have d2:Cz w' (w.1.size+1) 0 (I (vN (d.map f))):=(i.cell (p:=(U (w.1.size+1) 0)) T).trans c2;have e2:w'.frozen? (U (w.1.size+1) 0)=false:=zw ((i.block _ T).trans (ud HI)) 0;have a:=ze i;clear i)
  all_goals gi_wp2
  all_goals(try go_bits)
  all_goals(first|(rw[hz];exact yO (x:=x) rfl hn (ud z) (ud HI) (ud g) ⟨(ud a).os,(ud a).tape,(ud a).output,(ud a).size,(ud a).block⟩)|exact yO (x:=x) rfl hn (ud z) (ud HI) (ud g) ⟨(ud a).os,(ud a).tape,(ud a).output,(ud a).size,(ud a).block⟩)
 case done=>
  rintro D xs W hD hS ⟨u,i2,i3⟩ J;obtain⟨c2,-⟩:=zc i2;have g:=ze i3;clear u i2 i3;gi_wp2;refine⟨by simp,.inl ⟨_,_,rfl,run_takeDeferred J,?_⟩⟩;exact⟨_,results_tmp rfl _ _ _,xs,hS,rfl,xE (ud g) (Y _) (by omega) J _⟩
 case stop=>
  rintro D c d W _ _ h _;exact h.elim
attribute [local go_sem] Oper.semAt_some
theorem zlh(l Bm b:Nat)(L:List (Sg×SX))(a8:¬ex b)(J Jx:List SX->Z->Prop)(W:Z)(aa:m<=W.1.size)(hJ:OwnFrom W.1.size J)(H:OwnFrom W.1.size Jx)(hY:∀d x V,J d V->d.length<L.length->YieldAt Fence.wide 5 prog l #[.agg (xZz x)] V fun e V'=>(e=.returned (.bool true)/\J (d++[x]) V'/\KX ex n m V V')\/(e=.returned (.bool false)/\Jx (d++[x]) V'/\KX ex n m V V'))(hm:W.cell? (U Bm 0)=E (.map (E b)))(R:xi yG W b L)(h0:J [] W):
  CallsIn Fence.wide 6 prog 150 #[.func (.yield l) #[] #[],(O Bm)] W fun e W'=>(∃v,e=.returned v)/\
   ((∃xs,(∃ps:List (Sg×SX),ps.Perm L/\xs=ps.map (fun p:Sg×SX=>p.2))/\J xs W')\/(∃d,True/\Jx d W')):=by
 obtain⟨es,clock,hb,N⟩:=R;have a5:=zd hb;have c:=run_range_map (P:=prog) W 152 _ _ b es clock underlying152 hb;have HE:=ze N;have j:=ze hJ;have ac:=N.count;refine callsIn_of_wp func150 rfl trivial ?_ rfl;simp only[ntmps150,sZz,Nat.reduceAdd,Nat.reduceSub];gi_wp2;gi_loopw [4] (fun _ wr=>∃(seen:Array Nat) (D:Nat) (ps:List MapEntry),wr.1[W.1.size]?=E (.mapIter (E b) clock seen D)/\clock<=D/\wr.1[b]?=E (.map es clock)/\zdT es seen ps/\J ((ps.map (kC yG L)).map (fun p:Sg×SX=>p.2)) wr)
  (fun _ wr=>Z9 es W.1.size wr)
 case atStart=>
  exact⟨#[],clock,[],zq _ _,Y _,(Below.heap_alloc _ _ _ a5).trans hb,⟨by simp,by simp,by simp⟩,zN (ud j) h0 ((G _ _).alloc (Y _) _)⟩
 case round=>
  obtain⟨seen,D,ps,z,a6,q,hC,F⟩:=hrel;have ab:=zd z;have HC:=ze hC;rcases run_next_at (P:=prog) wr 0 W.1.size b clock D seen es clock z q (ud HE).born a6 with⟨hz,a⟩|⟨e,g,w1,h,a⟩
  ·have HZ:=ze hz;clear c hz hC N hJ H;gi_wp2;go_end0;exact⟨⟨_,rfl⟩,.inl ⟨_,⟨_,jP Xx (ud HE) ((ud HC).all (ud HE).once (ud HZ)),rfl⟩,F⟩⟩
  ·have A:=ze g;obtain⟨s,_⟩:=xF.1 g;have S:w1.1[W.1.size]?=E (.mapIter (E b) clock seen D):=(by rcases h with rfl|rfl<;>exact z);have K:w1.1[b]?=E (.map es clock):=(by rcases h with rfl|rfl<;>exact q);have a9:b≠W.1.size:=(by omega);obtain⟨X,w⟩:∃X,setBlock w1 W.1.size (.mapIter (E b) clock (seen.push e.born) clock)=X:=⟨_,rfl⟩;have o:X.1[W.1.size]?=E (.mapIter (E b) clock (seen.push e.born) clock):=(by rw[<-w];exact xO (zd S) _);have k:X.1[b]?=E (.map es clock):=(by rw[<-w,xq a9];exact K);have Q:wr.grownBy X (E W.1.size):=by
    rw[<-w];rcases h with rfl|rfl
    ·exact xA _ _ _
    ·have:=xA wr.drew W.1.size (.mapIter (E b) clock (seen.push e.born) clock);exact⟨this.os,this.tape,this.output,this.size,this.block⟩
   rw[w]at a;have i:=run_entry_at (P:=prog) X W.1.size b clock seen es clock e o k s (ud HE).once;obtain⟨a7,hk,hv⟩:=Xa Xx N s;have f:e.val=vk ((kC yG L e).2):=hv;unfold vk at f;rw[f]at a i;have a3:J ((ps.map (kC yG L)).map (fun p:Sg×SX=>p.2)) X:=ud j _ wr X (E W.1.size) F Q (fun r e=>by cases e;exact⟨Y _,_,z,rfl⟩);obtain⟨y,u⟩:∃y,(kC yG L e).2=y:=⟨_,rfl⟩;have a1:Hid ((fun p:Sg×SX=>p.2) (kC yG L e)=y):=u;rw[u]at a i;have M:=(G X.1.size X).alloc (Y _) (.cells (xZz y) 148);obtain⟨fn,tmps,assign,body,hy,hR⟩:=hY ((ps.map (kC yG L)).map (fun p:Sg×SX=>p.2)) y _ (zN (ud j) a3 M) (by rw[List.length_map,List.length_map];have:=hC.lt g;omega);have C:=ze o;have B:=ze k;have HX:=ze w;have a0:=ze z;clear c hC N o k w s S K hv hk Q f z q g h a7 u M hJ H;gi_wp2;refine hR.mono ?_;rintro e3 W3 (⟨rfl,a2,t⟩|⟨rfl,I,t⟩)
   ·gi_wp2;have T:=t.high W.1.size _ (by omega) (fun⟨_,_,e⟩=>by cases e) ((Below.heap_alloc _ _ _ (zd (ud C))).trans (ud C));have a4:=t.walk b _ a8 ((Below.heap_alloc _ _ _ (zd (ud B))).trans (ud B)) rfl;go_roundw;case rel=>exact⟨_,_,ps++[e],T,Y _,a4,(ud HC).step (ud A),by rw[List.map_append,List.map_append,List.map_singleton,List.map_singleton,ud a1];exact a2⟩
    case measure=>rw[xv T,xv (ud a0)];exact qR (ud A)
   ·gi_wp2;refine bodyPost_ret (results_none rfl _ _ _) rfl ?_;exact⟨⟨_,rfl⟩,.inr ⟨_,trivial,I⟩⟩
theorem JN(b:Nat)(w:Z):
  Calls prog 88 #[.map (E b)] w fun e w'=>e=.returned (.func (.func 150) #[] #[(O w.1.size)])/\w'=w.alloc (.cells #[.map (E b)] 152):=by
 go_enter func88,ntmps88;go_wp2_with fail;go_ret;exact⟨rfl,rfl⟩
theorem zli(Bm b:Nat)(L:List (Sg×SX))(w:Z)(e:¬ex b)(c:Bm<w.1.size)(o:w.cell? (U Bm 0)=E (.map (E b)))(a:xi yG w b L):
  jx ex n prog 150 #[(O Bm)] (fun x:SX=>#[.agg (xZz x)]) (fun xs=>∃ps:List (Sg×SX),ps.Perm L/\xs=ps.map (fun p:Sg×SX=>p.2)) L.length w:=
 fun m q l J h W g f j d k i=>zlh l Bm b L e J h W f j d k ((g.cell (p:=(U Bm 0)) c).trans o) (a.later g) i
theorem zcV:∀args w,(callFunc 150 args).run prog w=.ok (.enter 150 args) w:=enters_of func150 (by kernel_rfl) rfl
theorem zif(Bm b:Nat)(L:LV)(w:Z)(d:¬ex b)(c:Bm<w.1.size)(f:w.cell? (U Bm 0)=E (.map (E b)))(a:xi yG w b (vQ L)):
  jx ex n prog 150 #[(O Bm)] (fun x:SX=>#[.agg (xZz x)]) (fun xs=>xs.Perm L) L.length w:=by
 have h:=(zli (n:=n) Bm b (vQ L) w d c f a).imp (S':=fun xs=>xs.Perm L) (fun xs ⟨ps,h,e⟩=>by rw[e];exact KG h);rwa[KF]at h
attribute [local go_sem] Oper.semAt_some
theorem zlf{α:Type}(k:α->Sg)(j:Sg->α)(l Bm b:Nat)(L:List (Sg×SX))(ac:∀p∈L,k (j p.1)=p.1)(ab:¬ex b)(J Jx:List α->Z->Prop)(W:Z)(ae:m<=W.1.size)(hJ:OwnFrom W.1.size J)(N:OwnFrom W.1.size Jx)(hY:∀d x V,J d V->d.length<L.length->YieldAt Fence.wide 5 prog l #[.agg #[I (k x).t,I (k x).sr,I (k x).wn]] V fun e V'=>(e=.returned (.bool true)/\J (d++[x]) V'/\KX ex n m V V')\/(e=.returned (.bool false)/\Jx (d++[x]) V'/\KX ex n m V V'))(hm:W.cell? (U Bm 0)=E (.map (E b)))(a1:xi yG W b L)(h0:J [] W):
  CallsIn Fence.wide 6 prog 233 #[.func (.yield l) #[] #[],(O Bm)] W fun e W'=>(∃v,e=.returned v)/\
   ((∃xs,(∃ps:List (Sg×SX),ps.Perm L/\xs=ps.map (fun p:Sg×SX=>j p.1))/\J xs W')\/(∃d,True/\Jx d W')):=by
 obtain⟨es,clock,hb,he⟩:=a1;have a9:=zd hb;have c:=run_range_map (P:=prog) W 152 _ _ b es clock underlying152 hb;have HE:=ze he;have o:=ze hJ;have ag:=he.count;refine callsIn_of_wp func233 rfl trivial ?_ rfl;simp only[ntmps233,sZz,Nat.reduceAdd,Nat.reduceSub];gi_wp2;gi_loopw [3] (fun _ wr=>∃(seen:Array Nat) (K:Nat) (ps:List MapEntry),wr.1[W.1.size]?=E (.mapIter (E b) clock seen K)/\clock<=K/\wr.1[b]?=E (.map es clock)/\zdT es seen ps/\J ((ps.map (kC yG L)).map (fun p:Sg×SX=>j p.1)) wr)
  (fun _ wr=>Z9 es W.1.size wr)
 case atStart=>
  exact⟨#[],clock,[],zq _ _,Y _,(Below.heap_alloc _ _ _ a9).trans hb,⟨by simp,by simp,by simp⟩,zN (ud o) h0 ((G _ _).alloc (Y _) _)⟩
 case round=>
  obtain⟨seen,K,ps,C,aa,u,hC,M⟩:=hrel;have af:=zd C;have HC:=ze hC;rcases run_next_at (P:=prog) wr 0 W.1.size b clock K seen es clock C u (ud HE).born aa with⟨hz,a⟩|⟨e,g,w1,h,a⟩
  ·have HZ:=ze hz;clear c hz hC he hJ N;gi_wp2;go_end0;exact⟨⟨_,rfl⟩,.inl ⟨_,⟨_,jP Xx (ud HE) ((ud HC).all (ud HE).once (ud HZ)),rfl⟩,M⟩⟩
  ·have D:=ze g;obtain⟨w,_⟩:=xF.1 g;have a2:w1.1[W.1.size]?=E (.mapIter (E b) clock seen K):=(by rcases h with rfl|rfl<;>exact C);have R:w1.1[b]?=E (.map es clock):=(by rcases h with rfl|rfl<;>exact u);have ad:b≠W.1.size:=(by omega);obtain⟨X,B⟩:∃X,setBlock w1 W.1.size (.mapIter (E b) clock (seen.push e.born) clock)=X:=⟨_,rfl⟩;have s:X.1[W.1.size]?=E (.mapIter (E b) clock (seen.push e.born) clock):=(by rw[<-B];exact xO (zd a2) _);have q:X.1[b]?=E (.map es clock):=(by rw[<-B,xq ad];exact R);have a0:wr.grownBy X (E W.1.size):=by
    rw[<-B];rcases h with rfl|rfl
    ·exact xA _ _ _
    ·have:=xA wr.drew W.1.size (.mapIter (E b) clock (seen.push e.born) clock);exact⟨this.os,this.tape,this.output,this.size,this.block⟩
   rw[B]at a;have i:=run_entry_at (P:=prog) X W.1.size b clock seen es clock e s q w (ud HE).once;obtain⟨T,hk,hv⟩:=Xa Xx he w;have f:e.key=kR (k (j (kC yG L e).1)):=(by rw[ac _ T];exact hk);unfold kR at f;rw[f]at a i;have a7:J ((ps.map (kC yG L)).map (fun p:Sg×SX=>j p.1)) X:=ud o _ wr X (E W.1.size) M a0 (fun r e=>by cases e;exact⟨Y _,_,C,rfl⟩);obtain⟨y,A⟩:∃y,j (kC yG L e).1=y:=⟨_,rfl⟩;have a5:Hid ((fun p:Sg×SX=>j p.1) (kC yG L e)=y):=A;rw[A]at a i;have S:=(G X.1.size X).alloc (Y _) (.cells #[I (k y).t,I (k y).sr,I (k y).wn] 146);obtain⟨fn,tmps,assign,body,hy,hR⟩:=hY ((ps.map (kC yG L)).map (fun p:Sg×SX=>j p.1)) y _ (zN (ud o) a7 S) (by rw[List.length_map,List.length_map];have:=hC.lt g;omega);have H:=ze s;have F:=ze q;have HX:=ze B;have a4:=ze C;clear c hC he s q B w a2 R hv hk a0 f C u g h T A S hJ N;gi_wp2;refine hR.mono ?_;rintro e3 W3 (⟨rfl,a6,z⟩|⟨rfl,Q,z⟩)
   ·gi_wp2;have a3:=z.high W.1.size _ (by omega) (fun⟨_,_,e⟩=>by cases e) ((Below.heap_alloc _ _ _ (zd (ud H))).trans (ud H));have a8:=z.walk b _ ab ((Below.heap_alloc _ _ _ (zd (ud F))).trans (ud F)) rfl;go_roundw;case rel=>exact⟨_,_,ps++[e],a3,Y _,a8,(ud HC).step (ud D),by rw[List.map_append,List.map_append,List.map_singleton,List.map_singleton,ud a5];exact a6⟩
    case measure=>rw[xv a3,xv (ud a4)];exact qR (ud D)
   ·gi_wp2;refine bodyPost_ret (results_none rfl _ _ _) rfl ?_;exact⟨⟨_,rfl⟩,.inr ⟨_,trivial,Q⟩⟩
theorem JL(b:Nat)(w:Z):
  Calls prog 173 #[.map (E b)] w fun e w'=>e=.returned (.func (.func 233) #[] #[(O w.1.size)])/\w'=w.alloc (.cells #[.map (E b)] 152):=by
 go_enter func173,ntmps173;go_wp2_with fail;go_ret;exact⟨rfl,rfl⟩
theorem zlg{α:Type}(c:α->Sg)(i:Sg->α)(Bm b:Nat)(L:List (Sg×SX))(h:∀p∈L,c (i p.1)=p.1)(w:Z)(f:¬ex b)(d:Bm<w.1.size)(s:w.cell? (U Bm 0)=E (.map (E b)))(a:xi yG w b L):
  jx ex n prog 233 #[(O Bm)] (fun x:α=>#[.agg #[I (c x).t,I (c x).sr,I (c x).wn]]) (fun xs=>∃ps:List (Sg×SX),ps.Perm L/\xs=ps.map (fun p:Sg×SX=>i p.1)) L.length w:=
 fun m u l J k W j g q e r o=>zlf c i l Bm b L h f J k W g q e r ((j.cell (p:=(U Bm 0)) d).trans s) (a.later j) o
theorem zcU:∀args w,(callFunc 233 args).run prog w=.ok (.enter 233 args) w:=enters_of func233 (by kernel_rfl) rfl
theorem zdd{α:Type}(d:α->Sg)(a:Sg->α)(Bm b:Nat)(L:LV)(i:∀p∈L,d (a p.1)=p.1)(w:Z)(g:¬ex b)(f:Bm<w.1.size)(m:w.cell? (U Bm 0)=E (.map (E b)))(c:xi yG w b (vQ L)):
  jx ex n prog 233 #[(O Bm)] (fun x:α=>#[.agg #[I (d x).t,I (d x).sr,I (d x).wn]]) (fun xs=>∃ps:List (Sg×SV),ps.Perm L/\xs=ps.map (fun p:Sg×SV=>a p.1)) L.length w:=by
 have h:=(zlg d a (n:=n) Bm b (vQ L) (fun q j=>by obtain⟨k,l⟩:=zbG j;rw[l];exact i _ k) w g f m c).imp (S':=fun xs=>∃ps:List (Sg×SV),ps.Perm L/\xs=ps.map (fun p:Sg×SV=>a p.1)) (fun xs ⟨ps,h,e⟩=>⟨_,KG h,by
  rw[e,List.map_map];refine List.map_congr_left (fun q j=>?_);show a q.1=a q.2.1;rw[(zbG (h.mem_iff.1 j)).2]⟩)
 rwa[KF]at h
attribute [local go_sem] Oper.semAt_some
theorem zog(l Bm b:Nat)(L:List (Tok×Lse))(a8:¬ex b)(J Jx:List Lse->Z->Prop)(W:Z)(aa:m<=W.1.size)(hJ:OwnFrom W.1.size J)(H:OwnFrom W.1.size Jx)(hY:∀d x V,J d V->d.length<L.length->YieldAt Fence.wide 5 prog l #[.agg (lZz x)] V fun e V'=>(e=.returned (.bool true)/\J (d++[x]) V'/\KX ex n m V V')\/(e=.returned (.bool false)/\Jx (d++[x]) V'/\KX ex n m V V'))(hm:W.cell? (U Bm 0)=E (.map (E b)))(R:xi xJ W b L)(h0:J [] W):
  CallsIn Fence.wide 6 prog 156 #[.func (.yield l) #[] #[],(O Bm)] W fun e W'=>(∃v,e=.returned v)/\
   ((∃xs,(∃ps:List (Tok×Lse),ps.Perm L/\xs=ps.map (fun p:Tok×Lse=>p.2))/\J xs W')\/(∃d,True/\Jx d W')):=by
 obtain⟨es,clock,hb,N⟩:=R;have a5:=zd hb;have c:=run_range_map (P:=prog) W 168 _ _ b es clock underlying168 hb;have HE:=ze N;have j:=ze hJ;have ac:=N.count;refine callsIn_of_wp func156 rfl trivial ?_ rfl;simp only[ntmps156,sZz,Nat.reduceAdd,Nat.reduceSub];gi_wp2;gi_loopw [4] (fun _ wr=>∃(seen:Array Nat) (D:Nat) (ps:List MapEntry),wr.1[W.1.size]?=E (.mapIter (E b) clock seen D)/\clock<=D/\wr.1[b]?=E (.map es clock)/\zdT es seen ps/\J ((ps.map (kC xJ L)).map (fun p:Tok×Lse=>p.2)) wr)
  (fun _ wr=>Z9 es W.1.size wr)
 case atStart=>
  exact⟨#[],clock,[],zq _ _,Y _,(Below.heap_alloc _ _ _ a5).trans hb,⟨by simp,by simp,by simp⟩,zN (ud j) h0 ((G _ _).alloc (Y _) _)⟩
 case round=>
  obtain⟨seen,D,ps,z,a6,q,hC,F⟩:=hrel;have ab:=zd z;have HC:=ze hC;rcases run_next_at (P:=prog) wr 0 W.1.size b clock D seen es clock z q (ud HE).born a6 with⟨hz,a⟩|⟨e,g,w1,h,a⟩
  ·have HZ:=ze hz;clear c hz hC N hJ H;gi_wp2;go_end0;exact⟨⟨_,rfl⟩,.inl ⟨_,⟨_,jP yx (ud HE) ((ud HC).all (ud HE).once (ud HZ)),rfl⟩,F⟩⟩
  ·have A:=ze g;obtain⟨s,_⟩:=xF.1 g;have S:w1.1[W.1.size]?=E (.mapIter (E b) clock seen D):=(by rcases h with rfl|rfl<;>exact z);have K:w1.1[b]?=E (.map es clock):=(by rcases h with rfl|rfl<;>exact q);have a9:b≠W.1.size:=(by omega);obtain⟨X,w⟩:∃X,setBlock w1 W.1.size (.mapIter (E b) clock (seen.push e.born) clock)=X:=⟨_,rfl⟩;have o:X.1[W.1.size]?=E (.mapIter (E b) clock (seen.push e.born) clock):=(by rw[<-w];exact xO (zd S) _);have k:X.1[b]?=E (.map es clock):=(by rw[<-w,xq a9];exact K);have Q:wr.grownBy X (E W.1.size):=by
    rw[<-w];rcases h with rfl|rfl
    ·exact xA _ _ _
    ·have:=xA wr.drew W.1.size (.mapIter (E b) clock (seen.push e.born) clock);exact⟨this.os,this.tape,this.output,this.size,this.block⟩
   rw[w]at a;have i:=run_entry_at (P:=prog) X W.1.size b clock seen es clock e o k s (ud HE).once;obtain⟨a7,hk,hv⟩:=Xa yx N s;have f:e.val=vC ((kC xJ L e).2):=hv;unfold vC at f;rw[f]at a i;have a3:J ((ps.map (kC xJ L)).map (fun p:Tok×Lse=>p.2)) X:=ud j _ wr X (E W.1.size) F Q (fun r e=>by cases e;exact⟨Y _,_,z,rfl⟩);obtain⟨y,u⟩:∃y,(kC xJ L e).2=y:=⟨_,rfl⟩;have a1:Hid ((fun p:Tok×Lse=>p.2) (kC xJ L e)=y):=u;rw[u]at a i;have M:=(G X.1.size X).alloc (Y _) (.cells (lZz y) 164);obtain⟨fn,tmps,assign,body,hy,hR⟩:=hY ((ps.map (kC xJ L)).map (fun p:Tok×Lse=>p.2)) y _ (zN (ud j) a3 M) (by rw[List.length_map,List.length_map];have:=hC.lt g;omega);have C:=ze o;have B:=ze k;have HX:=ze w;have a0:=ze z;clear c hC N o k w s S K hv hk Q f z q g h a7 u M hJ H;gi_wp2;refine hR.mono ?_;rintro e3 W3 (⟨rfl,a2,t⟩|⟨rfl,I,t⟩)
   ·gi_wp2;have T:=t.high W.1.size _ (by omega) (fun⟨_,_,e⟩=>by cases e) ((Below.heap_alloc _ _ _ (zd (ud C))).trans (ud C));have a4:=t.walk b _ a8 ((Below.heap_alloc _ _ _ (zd (ud B))).trans (ud B)) rfl;go_roundw;case rel=>exact⟨_,_,ps++[e],T,Y _,a4,(ud HC).step (ud A),by rw[List.map_append,List.map_append,List.map_singleton,List.map_singleton,ud a1];exact a2⟩
    case measure=>rw[xv T,xv (ud a0)];exact qR (ud A)
   ·gi_wp2;refine bodyPost_ret (results_none rfl _ _ _) rfl ?_;exact⟨⟨_,rfl⟩,.inr ⟨_,trivial,I⟩⟩
theorem zig(b:Nat)(w:Z):
  Calls prog 94 #[.map (E b)] w fun e w'=>e=.returned (.func (.func 156) #[] #[(O w.1.size)])/\w'=w.alloc (.cells #[.map (E b)] 168):=by
 go_enter func94,ntmps94;go_wp2_with fail;go_ret;exact⟨rfl,rfl⟩
theorem zmR(Bm b:Nat)(L:List (Tok×Lse))(w:Z)(e:¬ex b)(c:Bm<w.1.size)(o:w.cell? (U Bm 0)=E (.map (E b)))(a:xi xJ w b L):
  jx ex n prog 156 #[(O Bm)] (fun x:Lse=>#[.agg (lZz x)]) (fun xs=>∃ps:List (Tok×Lse),ps.Perm L/\xs=ps.map (fun p:Tok×Lse=>p.2)) L.length w:=
 fun m q l J h W g f j d k i=>zog l Bm b L e J h W f j d k ((g.cell (p:=(U Bm 0)) c).trans o) (a.later g) i
theorem zmM:∀args w,(callFunc 156 args).run prog w=.ok (.enter 156 args) w:=enters_of func156 (by kernel_rfl) rfl
attribute [local go_sem] Oper.semAt_some
theorem zoh{α:Type}(c:α->Tsk)(k:Tsk->α)(l Bm b:Nat)(L:List (Jk×Tsk))(ad:∀p∈L,c (k p.2)=p.2)(ac:¬ex b)(J Jx:List α->Z->Prop)(W:Z)(af:m<=W.1.size)(hJ:OwnFrom W.1.size J)(Q:OwnFrom W.1.size Jx)(hY:∀f x V,J f V->f.length<L.length->YieldAt Fence.wide 5 prog l #[.agg #[.iface (c x).jt (.agg #[I (c x).s.t,I (c x).s.sr,I (c x).s.wn]),I (c x).se,I (c x).ti,I (c x).rest]] V fun e V'=>(e=.returned (.bool true)/\J (f++[x]) V'/\KX ex n m V V')\/(e=.returned (.bool false)/\Jx (f++[x]) V'/\KX ex n m V V'))(hm:W.cell? (U Bm 0)=E (.map (E b)))(a2:xi qi W b L)(h0:J [] W):
  CallsIn Fence.wide 6 prog 158 #[.func (.yield l) #[] #[],(O Bm)] W fun e W'=>(∃v,e=.returned v)/\
   ((∃xs,(∃ps:List (Jk×Tsk),ps.Perm L/\xs=ps.map (fun p:Jk×Tsk=>k p.2))/\J xs W')\/(∃f,True/\Jx f W')):=by
 obtain⟨es,clock,hb,he⟩:=a2;have aa:=zd hb;have d:=run_range_map (P:=prog) W 169 _ _ b es clock underlying169 hb;have HE:=ze he;have o:=ze hJ;have ah:=he.count;refine callsIn_of_wp func158 rfl trivial ?_ rfl;simp only[ntmps158,sZz,Nat.reduceAdd,Nat.reduceSub];gi_wp2;gi_loopw [4] (fun _ wr=>∃(seen:Array Nat) (M:Nat) (ps:List MapEntry),wr.1[W.1.size]?=E (.mapIter (E b) clock seen M)/\clock<=M/\wr.1[b]?=E (.map es clock)/\zdT es seen ps/\J ((ps.map (kC qi L)).map (fun p:Jk×Tsk=>k p.2)) wr)
  (fun _ wr=>Z9 es W.1.size wr)
 case atStart=>
  exact⟨#[],clock,[],zq _ _,Y _,(Below.heap_alloc _ _ _ aa).trans hb,⟨by simp,by simp,by simp⟩,zN (ud o) h0 ((G _ _).alloc (Y _) _)⟩
 case round=>
  obtain⟨seen,M,ps,D,ab,w,hC,N⟩:=hrel;have ag:=zd D;have HC:=ze hC;rcases run_next_at (P:=prog) wr 0 W.1.size b clock M seen es clock D w (ud HE).born ab with⟨hz,a⟩|⟨e,h,w1,i,a⟩
  ·have HZ:=ze hz;clear d hz hC he hJ Q;gi_wp2;go_end0;exact⟨⟨_,rfl⟩,.inl ⟨_,⟨_,jP k8 (ud HE) ((ud HC).all (ud HE).once (ud HZ)),rfl⟩,N⟩⟩
  ·have F:=ze h;obtain⟨z,_⟩:=xF.1 h;have a3:w1.1[W.1.size]?=E (.mapIter (E b) clock seen M):=(by rcases i with rfl|rfl<;>exact D);have S:w1.1[b]?=E (.map es clock):=(by rcases i with rfl|rfl<;>exact w);have ae:b≠W.1.size:=(by omega);obtain⟨X,C⟩:∃X,setBlock w1 W.1.size (.mapIter (E b) clock (seen.push e.born) clock)=X:=⟨_,rfl⟩;have u:X.1[W.1.size]?=E (.mapIter (E b) clock (seen.push e.born) clock):=(by rw[<-C];exact xO (zd a3) _);have q:X.1[b]?=E (.map es clock):=(by rw[<-C,xq ae];exact S);have a1:wr.grownBy X (E W.1.size):=by
    rw[<-C];rcases i with rfl|rfl
    ·exact xA _ _ _
    ·have:=xA wr.drew W.1.size (.mapIter (E b) clock (seen.push e.born) clock);exact⟨this.os,this.tape,this.output,this.size,this.block⟩
   rw[C]at a;have j:=run_entry_at (P:=prog) X W.1.size b clock seen es clock e u q z (ud HE).once;obtain⟨a0,hk,hv⟩:=Xa k8 he z;have g:e.val=Ql (c (k (kC qi L e).2)):=(by rw[ad _ a0];exact hv);unfold Ql at g;rw[g]at a j;have a8:J ((ps.map (kC qi L)).map (fun p:Jk×Tsk=>k p.2)) X:=ud o _ wr X (E W.1.size) N a1 (fun r e=>by cases e;exact⟨Y _,_,D,rfl⟩);obtain⟨y,B⟩:∃y,k (kC qi L e).2=y:=⟨_,rfl⟩;have a6:Hid ((fun p:Jk×Tsk=>k p.2) (kC qi L e)=y):=B;rw[B]at a j;have T:=(G X.1.size X).alloc (Y _) (.cells #[.iface (c y).jt (.agg #[I (c y).s.t,I (c y).s.sr,I (c y).s.wn]),I (c y).se,I (c y).ti,I (c y).rest] 177);obtain⟨fn,tmps,assign,body,hy,hR⟩:=hY ((ps.map (kC qi L)).map (fun p:Jk×Tsk=>k p.2)) y _ (zN (ud o) a8 T) (by rw[List.length_map,List.length_map];have:=hC.lt h;omega);have K:=ze u;have H:=ze q;have HX:=ze C;have a5:=ze D;clear d hC he u q C z a3 S hv hk a1 g D w h i a0 B T hJ Q;gi_wp2;refine hR.mono ?_;rintro e3 W3 (⟨rfl,a7,A⟩|⟨rfl,R,A⟩)
   ·gi_wp2;have a4:=A.high W.1.size _ (by omega) (fun⟨_,_,e⟩=>by cases e) ((Below.heap_alloc _ _ _ (zd (ud K))).trans (ud K));have a9:=A.walk b _ ac ((Below.heap_alloc _ _ _ (zd (ud H))).trans (ud H)) rfl;go_roundw;case rel=>exact⟨_,_,ps++[e],a4,Y _,a9,(ud HC).step (ud F),by rw[List.map_append,List.map_append,List.map_singleton,List.map_singleton,ud a6];exact a7⟩
    case measure=>rw[xv a4,xv (ud a5)];exact qR (ud F)
   ·gi_wp2;refine bodyPost_ret (results_none rfl _ _ _) rfl ?_;exact⟨⟨_,rfl⟩,.inr ⟨_,trivial,R⟩⟩
theorem zih(b:Nat)(w:Z):
  Calls prog 97 #[.map (E b)] w fun e w'=>e=.returned (.func (.func 158) #[] #[(O w.1.size)])/\w'=w.alloc (.cells #[.map (E b)] 169):=by
 go_enter func97,ntmps97;go_wp2_with fail;go_ret;exact⟨rfl,rfl⟩
theorem zpL{α:Type}(a:α->Tsk)(i:Tsk->α)(Bm b:Nat)(L:List (Jk×Tsk))(h:∀p∈L,a (i p.2)=p.2)(w:Z)(f:¬ex b)(d:Bm<w.1.size)(u:w.cell? (U Bm 0)=E (.map (E b)))(c:xi qi w b L):
  jx ex n prog 158 #[(O Bm)] (fun x:α=>#[.agg #[.iface (a x).jt (.agg #[I (a x).s.t,I (a x).s.sr,I (a x).s.wn]),I (a x).se,I (a x).ti,I (a x).rest]]) (fun xs=>∃ps:List (Jk×Tsk),ps.Perm L/\xs=ps.map (fun p:Jk×Tsk=>i p.2)) L.length w:=
 fun m v l J k W j g q e r o=>zoh a i l Bm b L h f J k W g q e r ((j.cell (p:=(U Bm 0)) d).trans u) (c.later j) o
theorem zmN:∀args w,(callFunc 158 args).run prog w=.ok (.enter 158 args) w:=enters_of func158 (by kernel_rfl) rfl
attribute [local go_sem] Oper.semAt_some
theorem zll{α:Type}(c:α->Tsk)(k:Tsk->α)(l Bm b:Nat)(L:List (Jk×Tsk))(ab:∀p∈L,c (k p.2)=p.2)(J Jx:List α->Z->Prop)(W:Z)(hJ:OwnFrom W.1.size J)(M:OwnFrom W.1.size Jx)(hY:∀f x V,J f V->f.length<L.length->YieldAt Fence.wide 5 prog l #[.agg #[.iface (c x).jt (.agg #[I (c x).s.t,I (c x).s.sr,I (c x).s.wn]),I (c x).se,I (c x).ti,I (c x).rest]] V fun e V'=>(e=.returned (.bool true)/\J (f++[x]) V'/\KeepsWalks V V')\/(e=.returned (.bool false)/\Jx (f++[x]) V'/\KeepsWalks V V'))(hm:W.cell? (U Bm 0)=E (.map (E b)))(a1:xi qi W b L)(h0:J [] W):
  CallsIn Fence.wide 6 prog 158 #[.func (.yield l) #[] #[],(O Bm)] W fun e W'=>(∃v,e=.returned v)/\
   ((∃xs,(∃ps:List (Jk×Tsk),ps.Perm L/\xs=ps.map (fun p:Jk×Tsk=>k p.2))/\J xs W')\/(∃f,True/\Jx f W')):=by
 obtain⟨es,clock,hb,T⟩:=a1;have a9:=zd hb;have d:=run_range_map (P:=prog) W 169 _ _ b es clock underlying169 hb;have HE:=ze T;have m:=ze hJ;have ae:=T.count;refine callsIn_of_wp func158 rfl trivial ?_ rfl;simp only[ntmps158,sZz,Nat.reduceAdd,Nat.reduceSub];gi_wp2;gi_loopw [4] (fun _ wr=>∃(seen:Array Nat) (H:Nat) (ps:List MapEntry),wr.1[W.1.size]?=E (.mapIter (E b) clock seen H)/\clock<=H/\wr.1[b]?=E (.map es clock)/\zdT es seen ps/\J ((ps.map (kC qi L)).map (fun p:Jk×Tsk=>k p.2)) wr)
  (fun _ wr=>Z9 es W.1.size wr)
 case atStart=>
  exact⟨#[],clock,[],zq _ _,Y _,(Below.heap_alloc _ _ _ a9).trans hb,⟨by simp,by simp,by simp⟩,zN (ud m) h0 ((G _ _).alloc (Y _) _)⟩
 case round=>
  obtain⟨seen,H,ps,B,aa,q,hC,K⟩:=hrel;have ad:=zd B;have HC:=ze hC;rcases run_next_at (P:=prog) wr 0 W.1.size b clock H seen es clock B q (ud HE).born aa with⟨hz,a⟩|⟨e,h,w1,i,a⟩
  ·have HZ:=ze hz;clear d hz hC T hJ M;gi_wp2;go_end0;exact⟨⟨_,rfl⟩,.inl ⟨_,⟨_,jP k8 (ud HE) ((ud HC).all (ud HE).once (ud HZ)),rfl⟩,K⟩⟩
  ·have C:=ze h;obtain⟨u,_⟩:=xF.1 h;have a2:w1.1[W.1.size]?=E (.mapIter (E b) clock seen H):=(by rcases i with rfl|rfl<;>exact B);have Q:w1.1[b]?=E (.map es clock):=(by rcases i with rfl|rfl<;>exact q);have ac:b≠W.1.size:=(by omega);obtain⟨X,A⟩:∃X,setBlock w1 W.1.size (.mapIter (E b) clock (seen.push e.born) clock)=X:=⟨_,rfl⟩;have o:X.1[W.1.size]?=E (.mapIter (E b) clock (seen.push e.born) clock):=(by rw[<-A];exact xO (zd a2) _);have n:X.1[b]?=E (.map es clock):=(by rw[<-A,xq ac];exact Q);have a0:wr.grownBy X (E W.1.size):=by
    rw[<-A];rcases i with rfl|rfl
    ·exact xA _ _ _
    ·have:=xA wr.drew W.1.size (.mapIter (E b) clock (seen.push e.born) clock);exact⟨this.os,this.tape,this.output,this.size,this.block⟩
   rw[A]at a;have j:=run_entry_at (P:=prog) X W.1.size b clock seen es clock e o n u (ud HE).once;obtain⟨S,hk,hv⟩:=Xa k8 T u;have g:e.val=Ql (c (k (kC qi L e).2)):=(by rw[ab _ S];exact hv);unfold Ql at g;rw[g]at a j;have a7:J ((ps.map (kC qi L)).map (fun p:Jk×Tsk=>k p.2)) X:=ud m _ wr X (E W.1.size) K a0 (fun r e=>by cases e;exact⟨Y _,_,B,rfl⟩);obtain⟨y,z⟩:∃y,k (kC qi L e).2=y:=⟨_,rfl⟩;have a5:Hid ((fun p:Jk×Tsk=>k p.2) (kC qi L e)=y):=z;rw[z]at a j;have R:=(G X.1.size X).alloc (Y _) (.cells #[.iface (c y).jt (.agg #[I (c y).s.t,I (c y).s.sr,I (c y).s.wn]),I (c y).se,I (c y).ti,I (c y).rest] 177);obtain⟨fn,tmps,assign,body,hy,hR⟩:=hY ((ps.map (kC qi L)).map (fun p:Jk×Tsk=>k p.2)) y _ (zN (ud m) a7 R) (by rw[List.length_map,List.length_map];have:=hC.lt h;omega);have F:=ze o;have D:=ze n;have HX:=ze A;have a4:=ze B;clear d hC T o n A u a2 Q hv hk a0 g B q h i S z R hJ M;gi_wp2;refine hR.mono ?_;rintro e3 W3 (⟨rfl,a6,w⟩|⟨rfl,N,w⟩)
   ·gi_wp2;have a3:=w.same W.1.size _ ((Below.heap_alloc _ _ _ (zd (ud F))).trans (ud F)) rfl;have a8:=w.same b _ ((Below.heap_alloc _ _ _ (zd (ud D))).trans (ud D)) rfl;go_roundw;case rel=>exact⟨_,_,ps++[e],a3,Y _,a8,(ud HC).step (ud C),by rw[List.map_append,List.map_append,List.map_singleton,List.map_singleton,ud a5];exact a6⟩
    case measure=>rw[xv a3,xv (ud a4)];exact qR (ud C)
   ·gi_wp2;refine bodyPost_ret (results_none rfl _ _ _) rfl ?_;exact⟨⟨_,rfl⟩,.inr ⟨_,trivial,N⟩⟩
theorem zoi{α:Type}(a:α->Tsk)(g:Tsk->α)(Bm b:Nat)(L:List (Jk×Tsk))(f:∀p∈L,a (g p.2)=p.2)(w:Z)(d:Bm<w.1.size)(n:w.cell? (U Bm 0)=E (.map (E b)))(c:xi qi w b L):
  Yi Fence.wide 6 prog 158 #[(O Bm)] (fun x:α=>#[.agg #[.iface (a x).jt (.agg #[I (a x).s.t,I (a x).s.sr,I (a x).s.wn]),I (a x).se,I (a x).ti,I (a x).rest]]) KeepsWalks (fun xs=>∃ps:List (Jk×Tsk),ps.Perm L/\xs=ps.map (fun p:Jk×Tsk=>g p.2)) (fun _=>True) L.length 0 w:=
 fun l J i W h _ k e m j=>zll a g l Bm b L f J i W k e m ((h.cell (p:=(U Bm 0)) d).trans n) (c.later h) j
def Vw(x:Tsk):List Value:=[(jZz x),I x.se,I x.ti,I x.rest]
theorem zaz(x:Tsk):(Vw x).length=4:=rfl
theorem zfc(x:Tsk):∀v∈Vw x,v.oneCell'=true:=fun v hv=>by
 simp only[Vw,List.mem_cons,List.not_mem_nil,or_false]at hv;rcases hv with rfl|rfl|rfl|rfl<;>rfl
theorem ZT{row:Option Nat}{e:TypeId}{k:Nat}(h:W.ownsRow base e size v k xs)(f:W.grownBy W' row)(i:∀r,row=E r->∃o:Obj,W.1[r]?=E o/\o.isCells=false):W'.ownsRow base e size v k xs:=by
 refine h.kept f ?_;rcases h.2 with⟨rfl,_⟩|⟨g,cap,c,rfl,_,a,_⟩
 ·exact .inl rfl
 ·refine .inr fun d=>?_;obtain⟨o,b,j⟩:=i g (by simpa[Value.ownBlock]using d.symm);rw[a]at b;cases b;cases j
attribute [local go_sem] Oper.semAt_some
theorem zij(l Bm b:Nat)(L:List (Sg×SX))(J Jx:List SX->Z->Prop)(W:Z)(hJ:OwnFrom W.1.size J)(D:OwnFrom W.1.size Jx)(hY:∀d x V,J d V->d.length<L.length->YieldAt Fence.wide 5 prog l #[.agg (xZz x)] V fun e T=>(e=.returned (.bool true)/\J (d++[x]) T/\KeepsWalks V T)\/(e=.returned (.bool false)/\Jx (d++[x]) T/\KeepsWalks V T))(hm:W.cell? (U Bm 0)=E (.map (E b)))(N:xi yG W b L)(h0:J [] W):
  CallsIn Fence.wide 6 prog 150 #[.func (.yield l) #[] #[],(O Bm)] W fun e W'=>(∃v,e=.returned v)/\
   ((∃xs,(∃ps:List (Sg×SX),ps.Perm L/\xs=ps.map (fun p:Sg×SX=>p.2))/\J xs W')\/(∃d,True/\Jx d W')):=by
 obtain⟨es,clock,hb,K⟩:=N;have a5:=zd hb;have c:=run_range_map (P:=prog) W 152 _ _ b es clock underlying152 hb;have S:=ze K;have j:=ze hJ;have aa:=K.count;refine callsIn_of_wp func150 rfl trivial ?_ rfl;simp only[ntmps150,sZz,Nat.reduceAdd,Nat.reduceSub];gi_wp2;gi_loopw [4] (fun _ wr=>∃(seen:Array Nat) (B:Nat) (ps:List MapEntry),wr.1[W.1.size]?=E (.mapIter (E b) clock seen B)/\clock<=B/\wr.1[b]?=E (.map es clock)/\zdT es seen ps/\J ((ps.map (kC yG L)).map (fun p:Sg×SX=>p.2)) wr)
  (fun _ wr=>Z9 es W.1.size wr)
 case atStart=>
  exact⟨#[],clock,[],zq _ _,Y _,(Below.heap_alloc _ _ _ a5).trans hb,⟨by simp,by simp,by simp⟩,zN (ud j) h0 ((G _ _).alloc (Y _) _)⟩
 case round=>
  obtain⟨seen,B,ps,u,a6,n,hC,C⟩:=hrel;have a9:=zd u;have HC:=ze hC;rcases run_next_at (P:=prog) wr 0 W.1.size b clock B seen es clock u n (ud S).born a6 with⟨hz,a⟩|⟨e,g,w1,h,a⟩
  ·have HZ:=ze hz;clear c hz hC K hJ D;gi_wp2;go_end0;exact⟨⟨_,rfl⟩,.inl ⟨_,⟨_,jP Xx (ud S) ((ud HC).all (ud S).once (ud HZ)),rfl⟩,C⟩⟩
  ·have w:=ze g;obtain⟨o,_⟩:=xF.1 g;have Q:w1.1[W.1.size]?=E (.mapIter (E b) clock seen B):=(by rcases h with rfl|rfl<;>exact u);have H:w1.1[b]?=E (.map es clock):=(by rcases h with rfl|rfl<;>exact n);have a8:b≠W.1.size:=(by omega);obtain⟨X,t⟩:∃X,setBlock w1 W.1.size (.mapIter (E b) clock (seen.push e.born) clock)=X:=⟨_,rfl⟩;have m:X.1[W.1.size]?=E (.mapIter (E b) clock (seen.push e.born) clock):=(by rw[<-t];exact xO (zd Q) _);have k:X.1[b]?=E (.map es clock):=(by rw[<-t,xq a8];exact H);have M:wr.grownBy X (E W.1.size):=by
    rw[<-t];rcases h with rfl|rfl
    ·exact xA _ _ _
    ·have:=xA wr.drew W.1.size (.mapIter (E b) clock (seen.push e.born) clock);exact⟨this.os,this.tape,this.output,this.size,this.block⟩
   rw[t]at a;have i:=run_entry_at (P:=prog) X W.1.size b clock seen es clock e m k o (ud S).once;obtain⟨a7,hk,hv⟩:=Xa Xx K o;have f:e.val=vk ((kC yG L e).2):=hv;unfold vk at f;rw[f]at a i;have a3:J ((ps.map (kC yG L)).map (fun p:Sg×SX=>p.2)) X:=ud j _ wr X (E W.1.size) C M (fun r e=>by cases e;exact⟨Y _,_,u,rfl⟩);obtain⟨y,s⟩:∃y,(kC yG L e).2=y:=⟨_,rfl⟩;have a1:Hid ((fun p:Sg×SX=>p.2) (kC yG L e)=y):=s;rw[s]at a i;have I:=(G X.1.size X).alloc (Y _) (.cells (xZz y) 148);obtain⟨fn,tmps,assign,body,hy,hR⟩:=hY ((ps.map (kC yG L)).map (fun p:Sg×SX=>p.2)) y _ (zN (ud j) a3 I) (by rw[List.length_map,List.length_map];have:=hC.lt g;omega);have A:=ze m;have z:=ze k;have HX:=ze t;have a0:=ze u;clear c hC K m k t o Q H hv hk M f u n g h a7 s I hJ D;gi_wp2;refine hR.mono ?_;rintro e3 W3 (⟨rfl,a2,q⟩|⟨rfl,F,q⟩)
   ·gi_wp2;have R:=q.same W.1.size _ ((Below.heap_alloc _ _ _ (zd (ud A))).trans (ud A)) rfl;have a4:=q.same b _ ((Below.heap_alloc _ _ _ (zd (ud z))).trans (ud z)) rfl;go_roundw;case rel=>exact⟨_,_,ps++[e],R,Y _,a4,(ud HC).step (ud w),by rw[List.map_append,List.map_append,List.map_singleton,List.map_singleton,ud a1];exact a2⟩
    case measure=>rw[xv R,xv (ud a0)];exact qR (ud w)
   ·gi_wp2;refine bodyPost_ret (results_none rfl _ _ _) rfl ?_;exact⟨⟨_,rfl⟩,.inr ⟨_,trivial,F⟩⟩
theorem zlk(Bm b:Nat)(L:LV)(w:Z)(c:Bm<w.1.size)(q:w.cell? (U Bm 0)=E (.map (E b)))(a:xi yG w b (vQ L)):
  Yi Fence.wide 6 prog 150 #[(O Bm)] (fun x:SX=>#[.agg (xZz x)]) KeepsWalks (fun xs=>xs.Perm L) (fun _=>True) L.length 0 w:=
 fun l J i W g _ n d o j=>(zij l Bm b (vQ L) J i W n d (by rw[KF];exact o) ((g.cell (p:=(U Bm 0)) c).trans q) (a.later g) j).mono (by
  rintro e W' ⟨f,⟨xs,⟨ps,k,rfl⟩,m⟩|h⟩
  ·exact⟨f,.inl ⟨_,KG k,m⟩⟩
  ·exact⟨f,.inr h⟩)
attribute [local go_sem] Oper.semAt_some
theorem zkw:(prog.info? 177).map (fun i=>(i.zero,i.size,i.bytes))=E (E (.agg #[.nilIface,I 0,I 0,I 0]),4,40):=by kernel_rfl
theorem znu:∃i:TypeInfo,prog.info? 177=E i/\i.zero=E (.agg #[.nilIface,I 0,I 0,I 0])/\i.size=4/\i.bytes=40:=by
 have h:=zkw;cases a:prog.info? 177 with
 |none=>simp[a]at h
 |some i=>
  simp only[a,Option.map_some,Option.some.injEq,Prod.mk.injEq]at h;exact⟨i,rfl,h.1,h.2.1,h.2.2⟩
def apI(w:Z)(a:List Tsk)(W:Z):Prop:=∃v,W.1[w.1.size]?=E (.cells #[v] 186 (0,0))/\W.ownsRow w.1.size 177 4 v a.length (a.flatMap Vw)/\Below w.1.size w W
theorem apI.later{w:Z}{a:List Tsk}(h:apI w a W)(b:Below W.1.size W W'):apI w a W':=by
 obtain⟨v,c,g,d⟩:=h;exact⟨v,(b.block _ (zd c)).trans c,zh g (zi.of_below (f:=fun _=>False) b) (fun _ _ e=>e),d.trans (b.mono d.size)⟩
theorem zfD{c:Z}{e:TypeId}(i:W.ownsRow base e size v n xs)(d:W.grownBy c v.ownBlock)(B:Nat):KeepsFrom B W c/\KeepsWalks W c:=by
 have key:∀(k:Nat) (o:Obj),W.1[k]?=E o->o.isCells=false->c.1[k]?=E o:=fun k o a b=>(d.block k (zd a) (fun e=>by
  rcases i.2 with⟨rfl,_⟩|⟨g,cap,h,rfl,_,f,_⟩
  ·simp[Value.ownBlock]at e
  ·have:k=g:=(by simpa[Value.ownBlock]using e);subst this;rw[f]at a;cases a;cases b)).trans a
 exact⟨⟨d.size,fun k o _ a b=>key k o a b⟩,⟨d.size,fun k o a b=>key k o a (Obj.not_cells_of_walk b)⟩⟩
theorem zgh{F:Fence}{ops:Array Oper}{rest:List Oper}{o:Oper}{a:Act}{Q:Exit->Act->Z->Prop}(k:o.guard=none)(s x:Operand)(z:o.op=.call {callee:=.builtin .append,args:=#[s,x],argTypes:=#[186,186]})(base:Nat)(v:Value)(l:List Tsk)(f:Tsk)(A:a.eval s=v)(e:W.ownsRow base 177 4 v l.length (l.flatMap Vw))(B1:Nat)(B:a.eval x=.slice (E (U B1 0)) 1 1)(i:W.1[B1]?=E (.cells (tZz f) 177 (0,0)))(D:l.length<=1000000)(hbase:base<=W.1.size)(h:∀g cap w',w'.ownsRow base 177 4 (.slice (E (U g 0)) (l.length+1) cap) (l++[f]).length ((l++[f]).flatMap Vw)->W.grownBy w' v.ownBlock->g<w'.1.size->wpListIn F n prog ops Q rest (a.put o.dst (.slice (E (U g 0)) (l.length+1) cap)) w'):wpListIn F n prog ops Q (o::rest) a W:=by
 obtain⟨i0,y,m,p,q⟩:=znu;refine wpListIn_append_own_at W k s x 186 z base 177 i0 (.agg #[.nilIface,I 0,I 0,I 0]) 4 40 underlying186 y m p q rfl (by decide) v l.length _ A e (U B1 0) 1 1 (Vw f) B rfl (World.news_of_block (cs:=(Vw f).toArray) i) (zfc f) (by simp only[maxLen];omega) (by omega) hbase ?_;intro H C b j r u;obtain⟨w,c,rfl,t,d⟩:=b.form (by omega);exact h w c C (zkV b) j d
theorem zhp(gf:Nat)(lb:Array Value)(eg:∀args w,(callFunc gf args).run prog w=.ok (.enter gf args) w){S:List Tsk->Prop}(w:Z)(hN:N<=1000000)(q:Yi Fence.wide 6 prog gf lb (fun x:Tsk=>#[.agg (tZz x)]) KeepsWalks S (fun _=>True) N 0 w):
  Calls prog 228 #[.slice none 0 0,.func (.func gf) #[] lb] w fun e w'=>∃xs v,S xs/\e=.returned v/\w'.ownsRow w.1.size 177 4 v xs.length (xs.flatMap Vw)/\Below w.1.size w w':=by
 have M:=ze q;have a0:=ze eg;have b1:=zq w zmE;have bz:=zM w zmE;have V:Below w.1.size w (w.alloc zmE):=(G _ _).alloc (Y _) _;clear q eg;refine(callsIn_wide (n:=7)).1 ?_;refine callsIn_of_wp_marks func228 rfl trivial ?_ rfl;simp only[ntmps228,sZz,Nat.reduceAdd,Nat.reduceSub];have B1:=ze b1;have t:=ze V;have BZ:=ze bz;clear b1 V bz;gi_wp2;obtain⟨W0,T⟩:∃W0,(w.alloc zmE)=W0:=⟨_,rfl⟩;rw[T]at B1 t BZ ⊢;clear T;have hz:W0.1.size=w.1.size+1:=ud BZ;refine yg (F:=Fence.wide) (n:=7) rfl (by omega) (gf:=gf) (lb:=lb) rfl trivial (ud a0) (ud M) (by omega) (fun h k=>h.trans k) (fun W o o' h hc hw=>KeepsWalks.putObj _ h hw) (ud t) (fun _=>rfl)
  (apI w) (fun _ _ _=>False)
  (fun s A B row hs y z=>by
   obtain⟨v,Q,h2,R⟩:=hs;exact⟨v,zv Q y (fun r e=>(z r e).2),ZT h2 y (fun r e=>(z r e).2),R.grown y R.size (fun k e=>by have:=(z k e).1;omega)⟩)
  (fun _ _ _ _ _ hs _ _=>hs)
  ⟨_,ud B1,⟨rfl,.inl ⟨rfl,rfl⟩⟩,ud t⟩
  (fun x a' W=>∃H,w.1.size+1<=H/\W.1[H]?=E (.cells (tZz x) 177 (0,0))/\a'={tmps:=#[.slice none 0 0,.func (.func gf) #[] lb,(O w.1.size),undef,.slice none 0 0,(O H),.func (.func gf) #[] lb,.agg (tZz x),undef,undef,undef,undef,undef],defers:=[]})
  (fun x a' s A B row hs y z=>by
   obtain⟨H,Q,h2,R⟩:=hs;exact⟨H,Q,zv h2 y (fun r e=>(z r e).2),R⟩) ?assign ?body ?done ?stop
 case assign=>
  rintro l d x W K hI I;have HK:=ze I;have HI:=ze hI;clear I hI;gi_wp2;have g:=(G W.1.size W).alloc (Y _) (.cells (tZz x) 177);have ac:w.1.size<W.1.size:=by obtain⟨v,Q,h2,R⟩:=ud HI;exact zd Q
  exact ud HK _ _ (zo g) (KeepsWalks.alloc _ _) ((ud HI).later g) ⟨W.1.size,by omega,zq _ _,rfl⟩
 case body=>
  rintro l d x a' W hl ⟨r,z⟩ ⟨v,C,i2,i3⟩ ⟨H,aa,hx,rfl⟩ ab;obtain⟨va,vc,rfl⟩:=zR i2;have a6:=zd C;have ad:=zd hx;obtain⟨c1,-⟩:=zc C;obtain⟨x0,x1,x2,x3,-⟩:=zc hx;have L:=ze C;have a:=ze i2;have u:=ze i3;have HX:=ze hx;clear C i2 i3 hx z;gi_wp2_with (first
   |(gi_at_builtin;refine zgh rfl _ _ rfl w.1.size _ d x rfl ((ud a).alloc _) W.1.size rfl (zq _ _) (by omega) (by rw[zM];omega) ?_;intro g' a7 w3 b j a8
     have X:=zfD ((ud a).alloc (.cells (tZz x) 177)) j W0.1.size
     have P:w3.1[w.1.size]?=E (.cells #[.slice va d.length vc] 186 (0,0)):=(j.block w.1.size (by rw[zM];omega) (fun e=>zp (ud L) (ud a) (by decide) w.1.size e.symm rfl)).trans ((Below.heap_alloc _ _ _ a6).trans (ud L))
     obtain⟨d1,-⟩:=zc P
     have f1:w3.frozen? (U w.1.size 0)=false:=zw P 0
     have a9:=zd P
     have a3:=ze b
     have a1:=ze j
     have a2:=ze X
     have J:=ze P
     clear b j X P
     go_frame)
   |gi_in)
  have hk:=ud a2;have y:(W.alloc (.cells (tZz x) 177)).grownBy w3 (Value.slice va d.length vc).ownBlock:=ud a1;have m:=ud a3;have hb:=ud u;have g:=(G W.1.size W).alloc (Y _) (.cells (tZz x) 177);have a4:Below w.1.size w w3:=(hb.alloc hb.size _).grown y (by have:=hb.size;rw[zM];omega) (fun k e=>((ud a).lt k e).1);refine⟨((zo g).trans hk.1).trans ((KeepsOthers.setCell w3 (U w.1.size 0) _).from _),((KeepsWalks.alloc _ _).trans hk.2).trans (KeepsWalks.setCell _ _ _),?_⟩;exact⟨_,xD (i:=0) (ud J) _,zh m (zg (f:=fun k=>k=w.1.size) (zi.refl _ _) rfl) (fun k a5 e=>zp (ud J) m (by decide) k a5 e),a4.setCell (p:=(U w.1.size 0)) (Y _) _⟩
 case done=>
  rintro D xs W hD hS ⟨v,C,i2,i3⟩ I;obtain⟨va,vc,rfl⟩:=zR i2;obtain⟨c2,-⟩:=zc C;have a:=ze i2;have u:=ze i3;clear C i2 i3;gi_wp2;refine⟨by simp,.inl ⟨_,_,rfl,run_takeDeferred I,?_⟩⟩;exact⟨_,results_tmp rfl _ _ _,xs,_,hS,rfl,ZT (ud a) (grownBy_putObj' _ _ _) (fun r e=>by cases e;exact⟨_,I,rfl⟩),xE (ud u) (Y _) (by omega) I _⟩
 case stop=>
  rintro D c d W _ _ h _;exact h.elim
end Go.Proofs.YtndhpgciopcncaaGreatDoor
