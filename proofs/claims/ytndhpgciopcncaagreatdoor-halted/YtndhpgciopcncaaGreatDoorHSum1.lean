import Derived.Test.YtndhpgciopcncaaGreatDoorHWhr0
set_option linter.unusedVariables false
set_option maxRecDepth 100000
set_option maxHeartbeats 2000000
open Go.Proofs.Tryz
namespace Go.Proofs.YtndhpgciopcncaaGreatDoor
open Go.RowKit Go.Maps Go.Shelf
variable {N n:Nat} {ex:Nat->Prop}
attribute [local go_sem] Oper.semAt_some
theorem zjH(gf:Nat)(lb:Array Value)(eg:∀args w,(callFunc gf args).run prog w=.ok (.enter gf args) w){S:List SX->Prop}(f:SX->Int)(w:World)(hn:n<=w.1.size)(L:∀(x:SX) (W:World),Below w.1.size w W->Calls prog 152 #[.agg (xZz x)] W fun e W'=>e=.returned (I (f x))/\Below W.1.size W W')(j:jx ex n prog gf lb (fun x:SX=>#[.agg (xZz x)]) S N w):
  Calls prog 87 #[.func (.func gf) #[] lb,.func (.func 152) #[] #[]] w fun e w'=>∃xs,S xs/\e=.returned (I (vN (xs.map f)))/\Below w.1.size w w':=by
 have y:=ze L;have z:=ze j;have T:=ze eg;obtain⟨Z,b2,H,bz⟩:=box2 w (.cells #[.func (.func 152) #[] #[]] 156) Vy;clear L j eg;refine(callsIn_wide (n:=7)).1 ?_;refine callsIn_of_wp_marks func87 rfl trivial ?_ rfl;simp only[ntmps87,sZz,Nat.reduceAdd,Nat.reduceSub];have B1:=ze Z;have B2:=ze b2;have m:=ze H;have Y:=ze bz;clear Z b2 H bz;gi_wp2;obtain⟨W0,E⟩:∃W0,((w.alloc (.cells #[.func (.func 152) #[] #[]] 156)).alloc Vy)=W0:=⟨_,rfl⟩;rw[E]at B1 B2 m Y ⊢;clear E;have hz:W0.1.size=w.1.size+2:=ud Y;refine yg (F:=Fence.wide) (n:=7) rfl (by omega) (gf:=gf) (lb:=lb) rfl trivial (ud T) (ud z (w.1.size+4) (by omega)) (by omega) (fun h k=>h.trans k) (fun W o o' h hc hw=>KX.putObj o' (by omega) (by omega) h hw) (ud m) (fun _=>rfl)
  (fun b W=>W.1[w.1.size]?=some (.cells #[.func (.func 152) #[] #[]] 156 (0,0))/\W.1[w.1.size+1]?=some (.cells #[I (vN (b.map f))] 3 (0,0))/\Below w.1.size w W)
  (fun _ _ _=>False)
  (fun s A B row i J u=>⟨zv i.1 J (fun r e=>(u r e).2),zv i.2.1 J (fun r e=>(u r e).2),i.2.2.grown J (i.2.2.size) (fun k e=>by have:=(u k e).1;omega)⟩)
  (fun _ _ _ _ _ i _ _=>i)
  ⟨ud B1,ud B2,ud m⟩
  (fun x X W=>∃t,w.1.size+2<=t/\W.1[t]?=some (.cells (xZz x) 148 (0,0))/\X={tmps:=#[.func (.func gf) #[] lb,.func (.func 152) #[] #[],undef,(O w.1.size),I 0,(O (w.1.size+1)),(O t),.func (.func gf) #[] lb,.agg (xZz x),undef,undef,undef,undef,undef,undef],defers:=[]})
  (fun x X s A B row i J u=>by
   obtain⟨t,h1,h2,h3⟩:=i;exact⟨t,h1,zv h2 J (fun r e=>(u r e).2),h3⟩) ?assign ?body ?done ?stop
 case assign=>
  rintro l b x W K ⟨q,i2,i3⟩ C;have P:=i3.size;have a2:=zd i2;have HK:=ze C;clear C;gi_wp2;have G:=(Below.refl W.1.size W).alloc (Nat.le_refl _) (.cells (xZz x) 148);refine ud HK _ _ (zo G) (KX.of_below G) ⟨(Below.heap_alloc _ _ _ (by omega)).trans q,(Below.heap_alloc _ _ _ (by omega)).trans i2,i3.alloc P _⟩ ⟨W.1.size,by omega,zq _ _,rfl⟩
 case body=>
  rintro l b x X W hl ⟨r,u⟩ ⟨q,i2,i3⟩ ⟨t,a0,Q,rfl⟩ a3;have P:=i3.size;have a1:=zd Q;have M:=zd i2;obtain⟨c1,-⟩:=zc q;obtain⟨c2,-⟩:=zc i2;have f2:W.frozen? (U (w.1.size+1) 0)=false:=zw i2 0;obtain⟨x0,x1,x2,x3,x4,x5,x6,x7,-⟩:=zc Q;have V:=ze i2;have v:=ze q;have d:=ze i3;have HX:=ze Q;have a4:prog.follows .mixedOrders=true:=by kernel_rfl
  have HC:=ze (ud y x W i3);have R:=ze (ud y x W.drew i3.drew);clear q i2 i3 Q;gi_wp2
  gi_region_with_o (refine⟨trivial,?_⟩;gi_at_call 152;(first|refine(CallsIn.inRound l (callsIn_wide.2 (ud HC))).mono ?_|refine(CallsIn.inRound l (callsIn_wide.2 (ud R))).mono ?_);rintro e w' ⟨rfl,g⟩;have d2:Cz w' (w.1.size+1) 0 (I (vN (b.map f))):=(g.cell (p:=(U (w.1.size+1) 0)) M).trans c2;have e2:w'.frozen? (U (w.1.size+1) 0)=false:=zw ((g.block _ M).trans (ud V)) 0;have a:=ze g;clear g)
  all_goals gi_wp2
  all_goals(try go_bits)
  all_goals(first|(rw[hz];exact yO (x:=x) rfl hn (ud v) (ud V) (ud d) ⟨(ud a).os,(ud a).tape,(ud a).output,(ud a).size,(ud a).block⟩)|exact yO (x:=x) rfl hn (ud v) (ud V) (ud d) ⟨(ud a).os,(ud a).tape,(ud a).output,(ud a).size,(ud a).block⟩)
 case done=>
  rintro D xs W hD hS ⟨q,i2,i3⟩ C;obtain⟨c2,-⟩:=zc i2;have d:=ze i3;clear q i2 i3;gi_wp2;refine⟨by simp,.inl ⟨_,_,rfl,run_takeDeferred C,?_⟩⟩;exact⟨_,results_tmp rfl _ _ _,xs,hS,rfl,xE (ud d) (Nat.le_refl _) (by omega) C _⟩
 case stop=>
  rintro D c b W _ _ h _;exact h.elim
attribute [local go_sem] Oper.semAt_some
theorem zjG(gf:Nat)(lb:Array Value)(eg:∀args w,(callFunc gf args).run prog w=.ok (.enter gf args) w){S:List Lse->Prop}(f:Lse->Int)(w:World)(hn:n<=w.1.size)(L:∀(x:Lse) (W:World),Below w.1.size w W->Calls prog 155 #[.agg (lZz x)] W fun e W'=>e=.returned (I (f x))/\Below W.1.size W W')(j:jx ex n prog gf lb (fun x:Lse=>#[.agg (lZz x)]) S N w):
  Calls prog 153 #[.func (.func gf) #[] lb,.func (.func 155) #[] #[]] w fun e w'=>∃xs,S xs/\e=.returned (I (vN (xs.map f)))/\Below w.1.size w w':=by
 have y:=ze L;have z:=ze j;have T:=ze eg;obtain⟨Z,b2,H,bz⟩:=box2 w (.cells #[.func (.func 155) #[] #[]] 242) Vy;clear L j eg;refine(callsIn_wide (n:=7)).1 ?_;refine callsIn_of_wp_marks func153 rfl trivial ?_ rfl;simp only[ntmps153,sZz,Nat.reduceAdd,Nat.reduceSub];have B1:=ze Z;have B2:=ze b2;have m:=ze H;have Y:=ze bz;clear Z b2 H bz;gi_wp2;obtain⟨W0,E⟩:∃W0,((w.alloc (.cells #[.func (.func 155) #[] #[]] 242)).alloc Vy)=W0:=⟨_,rfl⟩;rw[E]at B1 B2 m Y ⊢;clear E;have hz:W0.1.size=w.1.size+2:=ud Y;refine yg (F:=Fence.wide) (n:=7) rfl (by omega) (gf:=gf) (lb:=lb) rfl trivial (ud T) (ud z (w.1.size+4) (by omega)) (by omega) (fun h k=>h.trans k) (fun W o o' h hc hw=>KX.putObj o' (by omega) (by omega) h hw) (ud m) (fun _=>rfl)
  (fun b W=>W.1[w.1.size]?=some (.cells #[.func (.func 155) #[] #[]] 242 (0,0))/\W.1[w.1.size+1]?=some (.cells #[I (vN (b.map f))] 3 (0,0))/\Below w.1.size w W)
  (fun _ _ _=>False)
  (fun s A B row i J u=>⟨zv i.1 J (fun r e=>(u r e).2),zv i.2.1 J (fun r e=>(u r e).2),i.2.2.grown J (i.2.2.size) (fun k e=>by have:=(u k e).1;omega)⟩)
  (fun _ _ _ _ _ i _ _=>i)
  ⟨ud B1,ud B2,ud m⟩
  (fun x X W=>∃t,w.1.size+2<=t/\W.1[t]?=some (.cells (lZz x) 164 (0,0))/\X={tmps:=#[.func (.func gf) #[] lb,.func (.func 155) #[] #[],undef,(O w.1.size),I 0,(O (w.1.size+1)),(O t),.func (.func gf) #[] lb,.agg (lZz x),undef,undef,undef,undef,undef,undef],defers:=[]})
  (fun x X s A B row i J u=>by
   obtain⟨t,h1,h2,h3⟩:=i;exact⟨t,h1,zv h2 J (fun r e=>(u r e).2),h3⟩) ?assign ?body ?done ?stop
 case assign=>
  rintro l b x W K ⟨q,i2,i3⟩ C;have P:=i3.size;have a2:=zd i2;have HK:=ze C;clear C;gi_wp2;have G:=(Below.refl W.1.size W).alloc (Nat.le_refl _) (.cells (lZz x) 164);refine ud HK _ _ (zo G) (KX.of_below G) ⟨(Below.heap_alloc _ _ _ (by omega)).trans q,(Below.heap_alloc _ _ _ (by omega)).trans i2,i3.alloc P _⟩ ⟨W.1.size,by omega,zq _ _,rfl⟩
 case body=>
  rintro l b x X W hl ⟨r,u⟩ ⟨q,i2,i3⟩ ⟨t,a0,Q,rfl⟩ a3;have P:=i3.size;have a1:=zd Q;have M:=zd i2;obtain⟨c1,-⟩:=zc q;obtain⟨c2,-⟩:=zc i2;have f2:W.frozen? (U (w.1.size+1) 0)=false:=zw i2 0;obtain⟨x0,x1,x2,x3,x4,x5,-⟩:=zc Q;have V:=ze i2;have v:=ze q;have d:=ze i3;have HX:=ze Q;have a4:prog.follows .mixedOrders=true:=by kernel_rfl
  have HC:=ze (ud y x W i3);have R:=ze (ud y x W.drew i3.drew);clear q i2 i3 Q;gi_wp2
  gi_region_with_o (refine⟨trivial,?_⟩;gi_at_call 155;(first|refine(CallsIn.inRound l (callsIn_wide.2 (ud HC))).mono ?_|refine(CallsIn.inRound l (callsIn_wide.2 (ud R))).mono ?_);rintro e w' ⟨rfl,g⟩;have d2:Cz w' (w.1.size+1) 0 (I (vN (b.map f))):=(g.cell (p:=(U (w.1.size+1) 0)) M).trans c2;have e2:w'.frozen? (U (w.1.size+1) 0)=false:=zw ((g.block _ M).trans (ud V)) 0;have a:=ze g;clear g)
  all_goals gi_wp2
  all_goals(try go_bits)
  all_goals(first|(rw[hz];exact yO (x:=x) rfl hn (ud v) (ud V) (ud d) ⟨(ud a).os,(ud a).tape,(ud a).output,(ud a).size,(ud a).block⟩)|exact yO (x:=x) rfl hn (ud v) (ud V) (ud d) ⟨(ud a).os,(ud a).tape,(ud a).output,(ud a).size,(ud a).block⟩)
 case done=>
  rintro D xs W hD hS ⟨q,i2,i3⟩ C;obtain⟨c2,-⟩:=zc i2;have d:=ze i3;clear q i2 i3;gi_wp2;refine⟨by simp,.inl ⟨_,_,rfl,run_takeDeferred C,?_⟩⟩;exact⟨_,results_tmp rfl _ _ _,xs,hS,rfl,xE (ud d) (Nat.le_refl _) (by omega) C _⟩
 case stop=>
  rintro D c b W _ _ h _;exact h.elim
end Go.Proofs.YtndhpgciopcncaaGreatDoor
