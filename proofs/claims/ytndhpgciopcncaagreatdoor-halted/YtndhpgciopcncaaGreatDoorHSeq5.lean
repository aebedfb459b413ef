import Derived.Test.YtndhpgciopcncaaGreatDoorHRef9
open Go.Value (int)
open Go.IntKind (i32)
set_option linter.unusedVariables false
set_option maxRecDepth 100000
set_option maxHeartbeats 2000000
open Go.Proofs.Tryz
namespace Go.Proofs.YtndhpgciopcncaaGreatDoor
open Go.RowKit Go.Maps Go.Shelf
variable {S Sp:List Cl->Prop} {N:Nat} {Kp:World->World->Prop}
attribute [local go_sem] Oper.semAt_some
theorem zoV(gf:Nat)(lb:Array Value)(eg:∀args w,(callFunc gf args).run prog w=.ok (.enter gf args) w)(f:Cl->Int)(w:World)(P:Zf w.1.size Kp)(Q:∀(x:Cl) (W:World),Below w.1.size w W->Calls prog 191 #[.agg #[I x.cnt,I x.sum,int i32 x.mn,int i32 x.mx]] W fun e W'=>e=.returned (I (f x))/\Below W.1.size W W')(m:SeqStopsK Fence.wide 6 prog gf lb (fun x:Cl=>#[.agg #[I x.cnt,I x.sum,int i32 x.mn,int i32 x.mx]]) Kp S Sp N w):
  Calls prog 190 #[.func (.func gf) #[] lb,.func (.func 191) #[] #[]] w fun e w'=>∃xs,S xs/\e=.returned (I (vN (xs.map f)))/\Below w.1.size w w':=by
 have E:=ze Q;have G:=ze m;have g:=ze P;have X:=ze eg;obtain⟨b1,b2,L,bz⟩:=box2 w (.cells #[.func (.func 191) #[] #[]] 270) Vy;clear Q m P eg;refine(callsIn_wide (n:=7)).1 ?_;refine callsIn_of_wp_marks func190 rfl trivial ?_ rfl;simp only[ntmps190,sZz,Nat.reduceAdd,Nat.reduceSub];have B1:=ze b1;have B2:=ze b2;have q:=ze L;have BZ:=ze bz;clear b1 b2 L bz;gi_wp2;obtain⟨W0,J⟩:∃W0,((w.alloc (.cells #[.func (.func 191) #[] #[]] 270)).alloc Vy)=W0:=⟨_,rfl⟩;rw[J]at B1 B2 q BZ ⊢;clear J;have hz:W0.1.size=w.1.size+2:=ud BZ;refine wpIn_rangeFunc_ownH (F:=Fence.wide) (n:=7) rfl (by omega) (gf:=gf) (lb:=lb) rfl trivial (ud X) (ud G) (ud g).t (fun W l o o' hl=>(ud g).b W l o o' (by omega)) (ud q) (fun _=>rfl)
  (fun d W=>W.1[w.1.size]?=some (.cells #[.func (.func 191) #[] #[]] 270 (0,0))/\W.1[w.1.size+1]?=some (.cells #[I (vN (d.map f))] 3 (0,0))/\Below w.1.size w W)
  (fun _ _ _=>False)
  (fun s A B row j M C=>⟨zv j.1 M (fun r e=>(C r e).2),zv j.2.1 M (fun r e=>(C r e).2),j.2.2.grown M (j.2.2.size) (fun k e=>by have:=(C k e).1;omega)⟩)
  (fun _ _ _ _ _ j _ _=>j)
  ⟨ud B1,ud B2,ud q⟩
  (fun x Z W=>∃z,w.1.size+2<=z/\W.1[z]?=some (.cells #[I x.cnt,I x.sum,int i32 x.mn,int i32 x.mx] 115 (0,0))/\Z={tmps:=#[.func (.func gf) #[] lb,.func (.func 191) #[] #[],undef,(O w.1.size),I 0,(O (w.1.size+1)),(O z),.func (.func gf) #[] lb,.agg #[I x.cnt,I x.sum,int i32 x.mn,int i32 x.mx],undef,undef,undef,undef,undef,undef],defers:=[]})
  (fun x Z s A B row j M C=>by
   obtain⟨z,h1,h2,h3⟩:=j;exact⟨z,h1,zv h2 M (fun r e=>(C r e).2),h3⟩) ?assign ?body ?done ?stop
 case assign=>
  rintro l d x W K ⟨y,i2,i3⟩ H;have v:=i3.size;have a2:=zd i2;have HK:=ze H;clear H;gi_wp2;refine ud HK _ _ ((KeepsOthers.alloc _ _).from _) ((ud g).of _ _ (KeepsOthers.alloc _ _) ((Below.refl _ W).alloc v _)) ⟨(Below.heap_alloc _ _ _ (by omega)).trans y,(Below.heap_alloc _ _ _ (by omega)).trans i2,i3.alloc v _⟩ ⟨W.1.size,by omega,zq _ _,rfl⟩
 case body=>
  rintro l d x Z W hl ⟨r,C⟩ ⟨y,i2,i3⟩ ⟨z,a0,T,rfl⟩ a3;have v:=i3.size;have a1:=zd T;have R:=zd i2;obtain⟨c1,-⟩:=zc y;obtain⟨c2,-⟩:=zc i2;have f2:W.frozen? (U (w.1.size+1) 0)=false:=zw i2 0;obtain⟨x0,x1,x2,x3,-⟩:=zc T;have HI:=ze i2;have Y:=ze y;have u:=ze i3;have HX:=ze T;have a4:prog.follows .mixedOrders=true:=by kernel_rfl
  have HC:=ze (ud E x W i3);have V:=ze (ud E x W.drew i3.drew);clear y i2 i3 T;gi_wp2
  gi_region_with_o (refine⟨trivial,?_⟩;gi_at_call 191;(first|refine(CallsIn.inRound l (callsIn_wide.2 (ud HC))).mono ?_|refine(CallsIn.inRound l (callsIn_wide.2 (ud V))).mono ?_);rintro e w' ⟨rfl,i⟩;have d2:Cz w' (w.1.size+1) 0 (I (vN (d.map f))):=(i.cell (p:=(U (w.1.size+1) 0)) R).trans c2;have e2:w'.frozen? (U (w.1.size+1) 0)=false:=zw ((i.block _ R).trans (ud HI)) 0;have a:=ze i;clear i)
  all_goals gi_wp2
  all_goals(try go_bits)
  all_goals exact zcq (x:=x) rfl (ud Y) (ud HI) (ud u) (ud g) ⟨(ud a).os,(ud a).tape,(ud a).output,(ud a).size,(ud a).block⟩
 case done=>
  rintro D xs W hD hS ⟨y,i2,i3⟩ H;obtain⟨c2,-⟩:=zc i2;have u:=ze i3;clear y i2 i3;gi_wp2;refine⟨by simp,.inl ⟨_,_,rfl,run_takeDeferred H,?_⟩⟩;exact⟨_,results_tmp rfl _ _ _,xs,hS,rfl,xE (ud u) (Nat.le_refl _) (by omega) H _⟩
 case stop=>
  rintro D c d W _ _ h _;exact h.elim
theorem zoW(gf:Nat)(lb:Array Value)(eg:∀args w,(callFunc gf args).run prog w=.ok (.enter gf args) w)(f:Cl->Int)(w:World)(P:Zf w.1.size Kp)(Q:∀(x:Cl) (W:World),Below w.1.size w W->Calls prog 193 #[.agg #[I x.cnt,I x.sum,int i32 x.mn,int i32 x.mx]] W fun e W'=>e=.returned (I (f x))/\Below W.1.size W W')(m:SeqStopsK Fence.wide 6 prog gf lb (fun x:Cl=>#[.agg #[I x.cnt,I x.sum,int i32 x.mn,int i32 x.mx]]) Kp S Sp N w):
  Calls prog 192 #[.func (.func gf) #[] lb,.func (.func 193) #[] #[]] w fun e w'=>∃xs,S xs/\e=.returned (I (vN (xs.map f)))/\Below w.1.size w w':=by
 have E:=ze Q;have G:=ze m;have g:=ze P;have X:=ze eg;obtain⟨b1,b2,L,bz⟩:=box2 w (.cells #[.func (.func 193) #[] #[]] 272) (.cells #[I 0] 2);clear Q m P eg;refine(callsIn_wide (n:=7)).1 ?_;refine callsIn_of_wp_marks func192 rfl trivial ?_ rfl;simp only[ntmps192,sZz,Nat.reduceAdd,Nat.reduceSub];have B1:=ze b1;have B2:=ze b2;have q:=ze L;have BZ:=ze bz;clear b1 b2 L bz;gi_wp2;obtain⟨W0,J⟩:∃W0,((w.alloc (.cells #[.func (.func 193) #[] #[]] 272)).alloc (.cells #[I 0] 2))=W0:=⟨_,rfl⟩;rw[J]at B1 B2 q BZ ⊢;clear J;have hz:W0.1.size=w.1.size+2:=ud BZ;refine wpIn_rangeFunc_ownH (F:=Fence.wide) (n:=7) rfl (by omega) (gf:=gf) (lb:=lb) rfl trivial (ud X) (ud G) (ud g).t (fun W l o o' hl=>(ud g).b W l o o' (by omega)) (ud q) (fun _=>rfl)
  (fun d W=>W.1[w.1.size]?=some (.cells #[.func (.func 193) #[] #[]] 272 (0,0))/\W.1[w.1.size+1]?=some (.cells #[I (vN (d.map f))] 2 (0,0))/\Below w.1.size w W)
  (fun _ _ _=>False)
  (fun s A B row j M C=>⟨zv j.1 M (fun r e=>(C r e).2),zv j.2.1 M (fun r e=>(C r e).2),j.2.2.grown M (j.2.2.size) (fun k e=>by have:=(C k e).1;omega)⟩)
  (fun _ _ _ _ _ j _ _=>j)
  ⟨ud B1,ud B2,ud q⟩
  (fun x Z W=>∃z,w.1.size+2<=z/\W.1[z]?=some (.cells #[I x.cnt,I x.sum,int i32 x.mn,int i32 x.mx] 115 (0,0))/\Z={tmps:=#[.func (.func gf) #[] lb,.func (.func 193) #[] #[],undef,(O w.1.size),I 0,(O (w.1.size+1)),(O z),.func (.func gf) #[] lb,.agg #[I x.cnt,I x.sum,int i32 x.mn,int i32 x.mx],undef,undef,undef,undef,undef,undef],defers:=[]})
  (fun x Z s A B row j M C=>by
   obtain⟨z,h1,h2,h3⟩:=j;exact⟨z,h1,zv h2 M (fun r e=>(C r e).2),h3⟩) ?assign ?body ?done ?stop
 case assign=>
  rintro l d x W K ⟨y,i2,i3⟩ H;have v:=i3.size;have a2:=zd i2;have HK:=ze H;clear H;gi_wp2;refine ud HK _ _ ((KeepsOthers.alloc _ _).from _) ((ud g).of _ _ (KeepsOthers.alloc _ _) ((Below.refl _ W).alloc v _)) ⟨(Below.heap_alloc _ _ _ (by omega)).trans y,(Below.heap_alloc _ _ _ (by omega)).trans i2,i3.alloc v _⟩ ⟨W.1.size,by omega,zq _ _,rfl⟩
 case body=>
  rintro l d x Z W hl ⟨r,C⟩ ⟨y,i2,i3⟩ ⟨z,a0,T,rfl⟩ a3;have v:=i3.size;have a1:=zd T;have R:=zd i2;obtain⟨c1,-⟩:=zc y;obtain⟨c2,-⟩:=zc i2;have f2:W.frozen? (U (w.1.size+1) 0)=false:=zw i2 0;obtain⟨x0,x1,x2,x3,-⟩:=zc T;have HI:=ze i2;have Y:=ze y;have u:=ze i3;have HX:=ze T;have a4:prog.follows .mixedOrders=true:=by kernel_rfl
  have HC:=ze (ud E x W i3);have V:=ze (ud E x W.drew i3.drew);clear y i2 i3 T;gi_wp2
  gi_region_with_o (refine⟨trivial,?_⟩;gi_at_call 193;(first|refine(CallsIn.inRound l (callsIn_wide.2 (ud HC))).mono ?_|refine(CallsIn.inRound l (callsIn_wide.2 (ud V))).mono ?_);rintro e w' ⟨rfl,i⟩;have d2:Cz w' (w.1.size+1) 0 (I (vN (d.map f))):=(i.cell (p:=(U (w.1.size+1) 0)) R).trans c2;have e2:w'.frozen? (U (w.1.size+1) 0)=false:=zw ((i.block _ R).trans (ud HI)) 0;have a:=ze i;clear i)
  all_goals gi_wp2
  all_goals(try go_bits)
  all_goals exact zcq (x:=x) rfl (ud Y) (ud HI) (ud u) (ud g) ⟨(ud a).os,(ud a).tape,(ud a).output,(ud a).size,(ud a).block⟩
 case done=>
  rintro D xs W hD hS ⟨y,i2,i3⟩ H;obtain⟨c2,-⟩:=zc i2;have u:=ze i3;clear y i2 i3;gi_wp2;refine⟨by simp,.inl ⟨_,_,rfl,run_takeDeferred H,?_⟩⟩;exact⟨_,results_tmp rfl _ _ _,xs,hS,rfl,xE (ud u) (Nat.le_refl _) (by omega) H _⟩
 case stop=>
  rintro D c d W _ _ h _;exact h.elim
end Go.Proofs.YtndhpgciopcncaaGreatDoor
