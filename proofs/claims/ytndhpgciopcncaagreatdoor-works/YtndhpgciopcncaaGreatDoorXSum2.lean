import Derived.Test.YtndhpgciopcncaaGreatDoorXConf0
set_option linter.unusedVariables false
set_option maxRecDepth 100000
set_option maxHeartbeats 2000000
namespace Go.Proofs.YtndhpgciopcncaaGreatDoor
open Go.RowKit Go.Maps Go.Shelf
attribute [local go_sem] Oper.semAt_some
theorem zkf(gf:Nat)(lb:Array Value)(eg:∀args w,(callFunc gf args).run Tryz.prog w=.ok (.enter gf args) w){ex:Nat->Prop}{n N:Nat}{S:List Lse->Prop}(f:Lse->Int)(w:World)(hn:n<=w.1.size)
  (J:∀(x:Lse) (W:World),B_ w W->Calls Tryz.prog 155 #[.agg (lZz x)] W fun e W'=>e=.returned (I (f x))/\B_ W W')
  (j:Z8 ex n Tryz.prog gf lb (fun x:Lse=>#[.agg (lZz x)]) S N w):
  Calls Tryz.prog 153 #[.func (.func gf) #[] lb,.func (.func 155) #[] #[]] w fun e w'=>∃xs,S xs/\e=.returned (I (vY (xs.map f)))/\B_ w w':=by
 have v:=ze J;have y:=ze j;have R:=ze eg;obtain⟨Z,b2,G,bz⟩:=box2 w (.cells #[.func (.func 155) #[] #[]] 242) zkK;clear J j eg;refine(callsIn_wide (n:=7)).1 ?_;refine callsIn_of_wp_marks Tryz.func153 rfl trivial ?_ rfl;simp only[Tryz.ntmps153,sZz,Nat.reduceAdd,Nat.reduceSub];have X:=ze Z;have B2:=ze b2;have m:=ze G;have Y:=ze bz;clear Z b2 G bz;gi_wp2;obtain⟨V,C⟩:∃V,((w.alloc (.cells #[.func (.func 155) #[] #[]] 242)).alloc zkK)=V:=⟨_,rfl⟩;rw[C]at X B2 m Y ⊢;clear C;have hz:V.1.size=w.1.size+2:=ud Y;refine yk (F:=Fence.wide) (n:=7) rfl (by omega) (gf:=gf) (lb:=lb) rfl trivial R (ud y (w.1.size+4) (by omega)) (by omega) (fun h k=>h.trans k) (fun W o o' h hc hw=>KX.putObj o' (by omega) (by omega) h hw) m (fun _=>rfl)
  (fun b W=>W.1[w.1.size]?=some (.cells #[.func (.func 155) #[] #[]] 242 (0,0))/\W.1[w.1.size+1]?=some (.cells #[I (vY (b.map f))] 3 (0,0))/\B_ w W)
  (fun _ _ _=>False)
  (fun s A B row i H t=>⟨zH i.1 H (fun r e=>(t r e).2),zH i.2.1 H (fun r e=>(t r e).2),i.2.2.grown H (i.2.2.size) (fun k e=>by have:=(t k e).1;omega)⟩)
  (fun _ _ _ _ _ i _ _=>i)
  ⟨X,B2,m⟩
  (fun x a' W=>∃q,w.1.size+2<=q/\W.1[q]?=some (.cells (lZz x) 164 (0,0))/\a'={tmps:=#[.func (.func gf) #[] lb,.func (.func 155) #[] #[],undef,(O w.1.size),I 0,(O (w.1.size+1)),(O q),.func (.func gf) #[] lb,.agg (lZz x),undef,undef,undef,undef,undef,undef],defers:=[]})
  (fun x a' s A B row i H t=>by
   obtain⟨q,h1,h2,h3⟩:=i;exact⟨q,h1,zH h2 H (fun r e=>(t r e).2),h3⟩) ?assign ?body ?done ?stop
 case assign=>
  rintro l b x W K ⟨i1,i2,i3⟩ z;have M:=i3.size;have a2:=zd i2;have HK:=ze z;clear z;gi_wp2;have E:=(Below.refl W.1.size W).alloc (Nat.le_refl _) (.cells (lZz x) 164);refine ud HK _ _ (zu E) (KX.of_below E) ⟨(Below.heap_alloc _ _ _ (by omega)).trans i1,(Below.heap_alloc _ _ _ (by omega)).trans i2,i3.alloc M _⟩ ⟨W.1.size,by omega,zo _ _,rfl⟩
 case body=>
  rintro l b x a' W hl ⟨r,t⟩ ⟨i1,i2,i3⟩ ⟨q,a0,P,rfl⟩ a3;have M:=i3.size;have a1:=zd P;have L:=zd i2;obtain⟨c1,-⟩:=zc i1;obtain⟨c2,-⟩:=zc i2;have f2:W.frozen? (U (w.1.size+1) 0)=false:=zI i2 0;obtain⟨x0,x1,x2,x3,x4,x5,-⟩:=zc P;have T:=ze i2;have u:=ze i1;have d:=ze i3;have HX:=ze P;have a4:Tryz.prog.follows .mixedOrders=true:=by kernel_rfl
  have HC:=ze (ud v x W i3);have Q:=ze (ud v x W.drew i3.drew);clear i1 i2 i3 P;gi_wp2
  gi_region_with_o (refine⟨trivial,?_⟩;gi_at_call 155;(first|refine(CallsIn.inRound l (callsIn_wide.2 HC)).mono ?_|refine(CallsIn.inRound l (callsIn_wide.2 Q)).mono ?_);rintro e w' ⟨rfl,g⟩;have d2:Cz w' (w.1.size+1) 0 (I (vY (b.map f))):=(g.cell (p:=(U (w.1.size+1) 0)) L).trans c2;have e2:w'.frozen? (U (w.1.size+1) 0)=false:=zI ((g.block _ L).trans T) 0;have a:=ze g;clear g)
  all_goals gi_wp2
  all_goals(try go_bits)
  all_goals(first|(rw[hz];exact yQ (x:=x) rfl hn u T d ⟨a.os,a.tape,a.output,a.size,a.block⟩)|exact yQ (x:=x) rfl hn u T d ⟨a.os,a.tape,a.output,a.size,a.block⟩)
 case done=>
  rintro D xs W hD hS ⟨i1,i2,i3⟩ z;obtain⟨c2,-⟩:=zc i2;have d:=ze i3;clear i1 i2 i3;gi_wp2;refine⟨by simp,.inl ⟨_,_,rfl,run_takeDeferred z,?_⟩⟩;exact⟨_,results_tmp rfl _ _ _,xs,hS,rfl,xG d (Nat.le_refl _) (by omega) z _⟩
 case stop=>
  rintro D c b W _ _ h _;exact h.elim
