import Derived.Test.YtndhpgciopcncaaGreatDoorYSeq0
open Go.Value renaming int → I
open Go.IntKind (i64)
open Go.IntKind (i32)
set_option linter.unusedVariables false
set_option maxRecDepth 100000
set_option maxHeartbeats 2000000
open Go.Proofs.Tryz
namespace Go.Proofs.YtndhpgciopcncaaGreatDoor
open Go.RowKit Go.Maps Go.Shelf
attribute [local go_sem] Oper.semAt_some
theorem zje(gf:Nat)(lb:Array Value)(eg:∀args w,(callFunc gf args).run prog w=.ok (.enter gf args) w){Kp:World->World->Prop}{S Sp:List Cl->Prop}{N:Nat}(f:Cl->Int)(w:World)(O:vN w.1.size Kp)
  (P:∀(x:Cl) (W:World),Below w.1.size w W->Calls prog 191 #[.agg #[I i64 x.cnt,I i64 x.sum,I i32 x.mn,I i32 x.mx]] W fun e W'=>e=.returned (I i64 (f x))/\Below W.1.size W W')
  (m:SeqStopsK Fence.wide 6 prog gf lb (fun x:Cl=>#[.agg #[I i64 x.cnt,I i64 x.sum,I i32 x.mn,I i32 x.mx]]) Kp S Sp N w):
  Calls prog 190 #[.func (.func gf) #[] lb,.func (.func 191) #[] #[]] w fun e w'=>∃xs,S xs/\e=.returned (I i64 (kW (xs.map f)))/\Below w.1.size w w':=by
 have E:=zd P
 have G:=zd m
 have g:=zd O
 have U:=zd eg
 obtain⟨b1,b2,L,bz⟩:=box2 w (.cells #[.func (.func 191) #[] #[]] 270) (.cells #[I i64 0] 3)
 clear P m O eg
 refine(callsIn_wide (n:=7)).1 ?_
 refine callsIn_of_wp_marks func190 rfl trivial ?_ rfl
 simp only[ntmps190,List.size_toArray,List.length_cons,List.length_nil,Nat.reduceAdd,Nat.reduceSub,Array.replicate_succ,Array.replicate_zero,List.push_toArray,List.append_toArray,List.nil_append,List.cons_append]
 have Z:=zd b1
 have B2:=zd b2
 have q:=zd L
 have BZ:=zd bz
 clear b1 b2 L bz
 gi_wp2
 obtain⟨X,J⟩:∃X,((w.alloc (.cells #[.func (.func 191) #[] #[]] 270)).alloc (.cells #[I i64 0] 3))=X:=⟨_,rfl⟩
 rw[J]at Z B2 q BZ ⊢
 clear J
 have hz:X.1.size=w.1.size+2:=ud BZ
 refine wpIn_rangeFunc_ownH (F:=Fence.wide) (n:=7) rfl (by omega) (gf:=gf) (lb:=lb) rfl trivial (ud U) (ud G) (ud g).t (fun W l o o' hl=>(ud g).b W l o o' (by omega)) (ud q) (fun _=>rfl)
  (fun d W=>W.1[w.1.size]?=some (.cells #[.func (.func 191) #[] #[]] 270 (0,0))/\W.1[w.1.size+1]?=some (.cells #[I i64 (kW (d.map f))] 3 (0,0))/\Below w.1.size w W)
  (fun _ _ _=>False)
  (fun s A B row j M C=>⟨zI j.1 M (fun r e=>(C r e).2),zI j.2.1 M (fun r e=>(C r e).2),j.2.2.grown M (j.2.2.size) (fun k e=>by have:=(C k e).1;omega)⟩)
  (fun _ _ _ _ _ j _ _=>j)
  ⟨ud Z,ud B2,ud q⟩
  (fun x Y W=>∃z,w.1.size+2<=z/\W.1[z]?=some (.cells #[I i64 x.cnt,I i64 x.sum,I i32 x.mn,I i32 x.mx] 115 (0,0))/\Y={tmps:=#[.func (.func gf) #[] lb,.func (.func 191) #[] #[],undef,.pointer (some ⟨w.1.size,0,none⟩),I i64 0,.pointer (some ⟨w.1.size+1,0,none⟩),.pointer (some ⟨z,0,none⟩),.func (.func gf) #[] lb,.agg #[I i64 x.cnt,I i64 x.sum,I i32 x.mn,I i32 x.mx],undef,undef,undef,undef,undef,undef],defers:=[]})
  (fun x Y s A B row j M C=>by
   obtain⟨z,h1,h2,h3⟩:=j
   exact⟨z,h1,zI h2 M (fun r e=>(C r e).2),h3⟩) ?assign ?body ?done ?stop
 case assign=>
  rintro l d x W K ⟨y,i2,i3⟩ H
  have v:=i3.size
  have a2:=zb i2
  have HK:=zd H
  clear H
  gi_wp2
  refine ud HK _ _ ((KeepsOthers.alloc _ _).from _) ((ud g).of _ _ (KeepsOthers.alloc _ _) ((Below.refl _ W).alloc v _)) ⟨(Below.heap_alloc _ _ _ (by omega)).trans y,(Below.heap_alloc _ _ _ (by omega)).trans i2,i3.alloc v _⟩ ⟨W.1.size,by omega,zr _ _,rfl⟩
 case body=>
  rintro l d x Y W hl ⟨r,C⟩ ⟨y,i2,i3⟩ ⟨z,a0,R,rfl⟩ a3
  have v:=i3.size
  have a1:=zb R
  have Q:=zb i2
  obtain⟨c1,-⟩:=zc y
  obtain⟨c2,-⟩:=zc i2
  have f2:W.frozen? ⟨w.1.size+1,0,none⟩=false:=zH i2 0
  obtain⟨x0,x1,x2,x3,-⟩:=zc R
  have HI:=zd i2
  have V:=zd y
  have u:=zd i3
  have HX:=zd R
  have a4:prog.follows .mixedOrders=true:=by kernel_rfl
  have HC:=zd (ud E x W i3)
  have T:=zd (ud E x W.drew i3.drew)
  clear y i2 i3 R
  gi_wp2
  gi_region_with_o (refine⟨trivial,?_⟩;gi_at_call 191;(first|refine(CallsIn.inRound l (callsIn_wide.2 (ud HC))).mono ?_|refine(CallsIn.inRound l (callsIn_wide.2 (ud T))).mono ?_);rintro e w' ⟨rfl,i⟩;have d2:w'.cell? ⟨w.1.size+1,0,none⟩=some (I i64 (kW (d.map f))):=(i.cell (p:=⟨w.1.size+1,0,none⟩) Q).trans c2;have e2:w'.frozen? ⟨w.1.size+1,0,none⟩=false:=zH ((i.block _ Q).trans (ud HI)) 0;have a:=zd i;clear i)
  all_goals gi_wp2
  all_goals(try go_bits)
  all_goals exact Jq (x:=x) rfl (ud V) (ud HI) (ud u) (ud g) ⟨(ud a).os,(ud a).tape,(ud a).output,(ud a).size,(ud a).block⟩
 case done=>
  rintro D xs W hD hS ⟨y,i2,i3⟩ H
  obtain⟨c2,-⟩:=zc i2
  have u:=zd i3
  clear y i2 i3
  gi_wp2
  refine⟨by simp,.inl ⟨_,_,rfl,run_takeDeferred H,?_⟩⟩
  exact⟨_,results_tmp rfl _ _ _,xs,hS,rfl,xE (ud u) (Nat.le_refl _) (by omega) H _⟩
 case stop=>
  rintro D c d W _ _ h _
  exact h.elim
theorem zjf(gf:Nat)(lb:Array Value)(eg:∀args w,(callFunc gf args).run prog w=.ok (.enter gf args) w){Kp:World->World->Prop}{S Sp:List Cl->Prop}{N:Nat}(f:Cl->Int)(w:World)(O:vN w.1.size Kp)
  (P:∀(x:Cl) (W:World),Below w.1.size w W->Calls prog 193 #[.agg #[I i64 x.cnt,I i64 x.sum,I i32 x.mn,I i32 x.mx]] W fun e W'=>e=.returned (I i64 (f x))/\Below W.1.size W W')
  (m:SeqStopsK Fence.wide 6 prog gf lb (fun x:Cl=>#[.agg #[I i64 x.cnt,I i64 x.sum,I i32 x.mn,I i32 x.mx]]) Kp S Sp N w):
  Calls prog 192 #[.func (.func gf) #[] lb,.func (.func 193) #[] #[]] w fun e w'=>∃xs,S xs/\e=.returned (I i64 (kW (xs.map f)))/\Below w.1.size w w':=by
 have E:=zd P
 have G:=zd m
 have g:=zd O
 have U:=zd eg
 obtain⟨b1,b2,L,bz⟩:=box2 w (.cells #[.func (.func 193) #[] #[]] 272) (.cells #[I i64 0] 2)
 clear P m O eg
 refine(callsIn_wide (n:=7)).1 ?_
 refine callsIn_of_wp_marks func192 rfl trivial ?_ rfl
 simp only[ntmps192,List.size_toArray,List.length_cons,List.length_nil,Nat.reduceAdd,Nat.reduceSub,Array.replicate_succ,Array.replicate_zero,List.push_toArray,List.append_toArray,List.nil_append,List.cons_append]
 have Z:=zd b1
 have B2:=zd b2
 have q:=zd L
 have BZ:=zd bz
 clear b1 b2 L bz
 gi_wp2
 obtain⟨X,J⟩:∃X,((w.alloc (.cells #[.func (.func 193) #[] #[]] 272)).alloc (.cells #[I i64 0] 2))=X:=⟨_,rfl⟩
 rw[J]at Z B2 q BZ ⊢
 clear J
 have hz:X.1.size=w.1.size+2:=ud BZ
 refine wpIn_rangeFunc_ownH (F:=Fence.wide) (n:=7) rfl (by omega) (gf:=gf) (lb:=lb) rfl trivial (ud U) (ud G) (ud g).t (fun W l o o' hl=>(ud g).b W l o o' (by omega)) (ud q) (fun _=>rfl)
  (fun d W=>W.1[w.1.size]?=some (.cells #[.func (.func 193) #[] #[]] 272 (0,0))/\W.1[w.1.size+1]?=some (.cells #[I i64 (kW (d.map f))] 2 (0,0))/\Below w.1.size w W)
  (fun _ _ _=>False)
  (fun s A B row j M C=>⟨zI j.1 M (fun r e=>(C r e).2),zI j.2.1 M (fun r e=>(C r e).2),j.2.2.grown M (j.2.2.size) (fun k e=>by have:=(C k e).1;omega)⟩)
  (fun _ _ _ _ _ j _ _=>j)
  ⟨ud Z,ud B2,ud q⟩
  (fun x Y W=>∃z,w.1.size+2<=z/\W.1[z]?=some (.cells #[I i64 x.cnt,I i64 x.sum,I i32 x.mn,I i32 x.mx] 115 (0,0))/\Y={tmps:=#[.func (.func gf) #[] lb,.func (.func 193) #[] #[],undef,.pointer (some ⟨w.1.size,0,none⟩),I i64 0,.pointer (some ⟨w.1.size+1,0,none⟩),.pointer (some ⟨z,0,none⟩),.func (.func gf) #[] lb,.agg #[I i64 x.cnt,I i64 x.sum,I i32 x.mn,I i32 x.mx],undef,undef,undef,undef,undef,undef],defers:=[]})
  (fun x Y s A B row j M C=>by
   obtain⟨z,h1,h2,h3⟩:=j
   exact⟨z,h1,zI h2 M (fun r e=>(C r e).2),h3⟩) ?assign ?body ?done ?stop
 case assign=>
  rintro l d x W K ⟨y,i2,i3⟩ H
  have v:=i3.size
  have a2:=zb i2
  have HK:=zd H
  clear H
  gi_wp2
  refine ud HK _ _ ((KeepsOthers.alloc _ _).from _) ((ud g).of _ _ (KeepsOthers.alloc _ _) ((Below.refl _ W).alloc v _)) ⟨(Below.heap_alloc _ _ _ (by omega)).trans y,(Below.heap_alloc _ _ _ (by omega)).trans i2,i3.alloc v _⟩ ⟨W.1.size,by omega,zr _ _,rfl⟩
 case body=>
  rintro l d x Y W hl ⟨r,C⟩ ⟨y,i2,i3⟩ ⟨z,a0,R,rfl⟩ a3
  have v:=i3.size
  have a1:=zb R
  have Q:=zb i2
  obtain⟨c1,-⟩:=zc y
  obtain⟨c2,-⟩:=zc i2
  have f2:W.frozen? ⟨w.1.size+1,0,none⟩=false:=zH i2 0
  obtain⟨x0,x1,x2,x3,-⟩:=zc R
  have HI:=zd i2
  have V:=zd y
  have u:=zd i3
  have HX:=zd R
  have a4:prog.follows .mixedOrders=true:=by kernel_rfl
  have HC:=zd (ud E x W i3)
  have T:=zd (ud E x W.drew i3.drew)
  clear y i2 i3 R
  gi_wp2
  gi_region_with_o (refine⟨trivial,?_⟩;gi_at_call 193;(first|refine(CallsIn.inRound l (callsIn_wide.2 (ud HC))).mono ?_|refine(CallsIn.inRound l (callsIn_wide.2 (ud T))).mono ?_);rintro e w' ⟨rfl,i⟩;have d2:w'.cell? ⟨w.1.size+1,0,none⟩=some (I i64 (kW (d.map f))):=(i.cell (p:=⟨w.1.size+1,0,none⟩) Q).trans c2;have e2:w'.frozen? ⟨w.1.size+1,0,none⟩=false:=zH ((i.block _ Q).trans (ud HI)) 0;have a:=zd i;clear i)
  all_goals gi_wp2
  all_goals(try go_bits)
  all_goals exact Jq (x:=x) rfl (ud V) (ud HI) (ud u) (ud g) ⟨(ud a).os,(ud a).tape,(ud a).output,(ud a).size,(ud a).block⟩
 case done=>
  rintro D xs W hD hS ⟨y,i2,i3⟩ H
  obtain⟨c2,-⟩:=zc i2
  have u:=zd i3
  clear y i2 i3
  gi_wp2
  refine⟨by simp,.inl ⟨_,_,rfl,run_takeDeferred H,?_⟩⟩
  exact⟨_,results_tmp rfl _ _ _,xs,hS,rfl,xE (ud u) (Nat.le_refl _) (by omega) H _⟩
 case stop=>
  rintro D c d W _ _ h _
  exact h.elim
end Go.Proofs.YtndhpgciopcncaaGreatDoor
