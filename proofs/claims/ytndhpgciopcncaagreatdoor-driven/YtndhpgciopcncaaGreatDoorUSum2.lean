import Derived.Test.YtndhpgciopcncaaGreatDoorUWhr0
open Go.Value renaming int → I
open Go.IntKind renaming i64 → J
set_option linter.unusedVariables false
set_option maxRecDepth 100000
set_option maxHeartbeats 2000000
namespace Go.Proofs.YtndhpgciopcncaaGreatDoor
open Go.RowKit Go.Maps Go.Shelf
attribute [local go_sem] Oper.semAt_some
theorem zdO(gf:Nat)(lb:Array Value)(eg:∀args w,(callFunc gf args).run Tryz.prog w=.ok (.enter gf args) w){ex:Nat->Prop}{n N:Nat}{S:List Lse->Prop}(f:Lse->Int)(w:World)(hn:n<=w.1.size)
  (M:∀(x:Lse) (W:World),Below w.1.size w W->Calls Tryz.prog 155 #[.agg #[I J x.kd,I J x.s.t,I J x.s.sr,I J x.s.wa,I J x.slot,I J x.til]] W fun e W'=>e=.returned (I J (f x))/\Below W.1.size W W')
  (j:kN ex n Tryz.prog gf lb (fun x:Lse=>#[.agg #[I J x.kd,I J x.s.t,I J x.s.sr,I J x.s.wa,I J x.slot,I J x.til]]) S N w):
  Calls Tryz.prog 153 #[.func (.func gf) #[] lb,.func (.func 155) #[] #[]] w fun e w'=>∃xs,S xs/\e=.returned (I J (kq (xs.map f)))/\Below w.1.size w w':=by
 have y:=zd M
 have z:=zd j
 have T:=zd eg
 obtain⟨b1,b2,H,bz⟩:=box2 w (.cells #[.func (.func 155) #[] #[]] 242) (.cells #[I J 0] 3)
 clear M j eg
 refine(callsIn_wide (n:=7)).1 ?_
 refine callsIn_of_wp_marks Tryz.func153 rfl trivial ?_ rfl
 simp only[Tryz.ntmps153,List.size_toArray,List.length_cons,List.length_nil,Nat.reduceAdd,Nat.reduceSub,Array.replicate_succ,Array.replicate_zero,List.push_toArray,List.append_toArray,List.nil_append,List.cons_append]
 have Z:=zd b1
 have B2:=zd b2
 have m:=zd H
 have BZ:=zd bz
 clear b1 b2 H bz
 gi_wp2
 obtain⟨V,E⟩:∃V,((w.alloc (.cells #[.func (.func 155) #[] #[]] 242)).alloc (.cells #[I J 0] 3))=V:=⟨_,rfl⟩
 rw[E]at Z B2 m BZ ⊢
 clear E
 have hz:V.1.size=w.1.size+2:=ud BZ
 refine qD (F:=Fence.wide) (n:=7) rfl (by omega) (gf:=gf) (lb:=lb) rfl trivial (ud T) (ud z (w.1.size+4) (by omega)) (by omega) (fun h k=>h.trans k) (fun W o o' h hc hw=>KX.putObj o' (by omega) (by omega) h hw) (ud m) (fun _=>rfl)
  (fun b W=>W.1[w.1.size]?=some (.cells #[.func (.func 155) #[] #[]] 242 (0,0))/\W.1[w.1.size+1]?=some (.cells #[I J (kq (b.map f))] 3 (0,0))/\Below w.1.size w W)
  (fun _ _ _=>False)
  (fun s A B Y i L u=>⟨zt i.1 L (fun r e=>(u r e).2),zt i.2.1 L (fun r e=>(u r e).2),i.2.2.grown L (i.2.2.size) (fun k e=>by have:=(u k e).1;omega)⟩)
  (fun _ _ _ _ _ i _ _=>i)
  ⟨ud Z,ud B2,ud m⟩
  (fun x X W=>∃q,w.1.size+2<=q/\W.1[q]?=some (.cells #[I J x.kd,I J x.s.t,I J x.s.sr,I J x.s.wa,I J x.slot,I J x.til] 164 (0,0))/\X={tmps:=#[.func (.func gf) #[] lb,.func (.func 155) #[] #[],undef,.pointer (some ⟨w.1.size,0,none⟩),I J 0,.pointer (some ⟨w.1.size+1,0,none⟩),.pointer (some ⟨q,0,none⟩),.func (.func gf) #[] lb,.agg #[I J x.kd,I J x.s.t,I J x.s.sr,I J x.s.wa,I J x.slot,I J x.til],undef,undef,undef,undef,undef,undef],defers:=[]})
  (fun x X s A B Y i L u=>by
   obtain⟨q,h1,h2,h3⟩:=i
   exact⟨q,h1,zt h2 L (fun r e=>(u r e).2),h3⟩) ?assign ?body ?done ?stop
 case assign=>
  rintro l b x W K ⟨i1,i2,i3⟩ C
  have P:=i3.size
  have a2:=za i2
  have HK:=zd C
  clear C
  gi_wp2
  have G:=(Below.refl W.1.size W).alloc (Nat.le_refl _) (.cells #[I J x.kd,I J x.s.t,I J x.s.sr,I J x.s.wa,I J x.slot,I J x.til] 164)
  refine ud HK _ _ (zh G) (KX.of_below G) ⟨(Below.heap_alloc _ _ _ (by omega)).trans i1,(Below.heap_alloc _ _ _ (by omega)).trans i2,i3.alloc P _⟩ ⟨W.1.size,by omega,zm _ _,rfl⟩
 case body=>
  rintro l b x X W hl ⟨r,u⟩ ⟨i1,i2,i3⟩ ⟨q,a0,Q,rfl⟩ a3
  have P:=i3.size
  have a1:=za Q
  have O:=za i2
  obtain⟨c1,-⟩:=zc i1
  obtain⟨c2,-⟩:=zc i2
  have f2:W.frozen? ⟨w.1.size+1,0,none⟩=false:=zE i2 0
  obtain⟨x0,x1,x2,x3,x4,x5,-⟩:=zc Q
  have U:=zd i2
  have v:=zd i1
  have d:=zd i3
  have HX:=zd Q
  have a4:Tryz.prog.follows .mixedOrders=true:=by kernel_rfl
  have HC:=zd (ud y x W i3)
  have R:=zd (ud y x W.drew i3.drew)
  clear i1 i2 i3 Q
  gi_wp2
  gi_region_with_o (refine⟨trivial,?_⟩;gi_at_call 155;(first|refine(CallsIn.inRound l (callsIn_wide.2 (ud HC))).mono ?_|refine(CallsIn.inRound l (callsIn_wide.2 (ud R))).mono ?_);rintro e w' ⟨rfl,g⟩;have d2:w'.cell? ⟨w.1.size+1,0,none⟩=some (I J (kq (b.map f))):=(g.cell (p:=⟨w.1.size+1,0,none⟩) O).trans c2;have e2:w'.frozen? ⟨w.1.size+1,0,none⟩=false:=zE ((g.block _ O).trans (ud U)) 0;have a:=zd g;clear g)
  all_goals gi_wp2
  all_goals(try go_bits)
  all_goals(first|(rw[hz];exact qU (x:=x) rfl hn (ud v) (ud U) (ud d) ⟨(ud a).os,(ud a).tape,(ud a).output,(ud a).size,(ud a).block⟩)|exact qU (x:=x) rfl hn (ud v) (ud U) (ud d) ⟨(ud a).os,(ud a).tape,(ud a).output,(ud a).size,(ud a).block⟩)
 case done=>
  rintro D xs W hD hS ⟨i1,i2,i3⟩ C
  obtain⟨c2,-⟩:=zc i2
  have d:=zd i3
  clear i1 i2 i3
  gi_wp2
  refine⟨by simp,.inl ⟨_,_,rfl,run_takeDeferred C,?_⟩⟩
  exact⟨_,results_tmp rfl _ _ _,xs,hS,rfl,xj (ud d) (Nat.le_refl _) (by omega) C _⟩
 case stop=>
  rintro D c b W _ _ h _
  exact h.elim
end Go.Proofs.YtndhpgciopcncaaGreatDoor
