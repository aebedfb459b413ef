import Derived.Test.YtpbimdkclnekeaaGreatVWhr0
open Go.Value renaming int → I
open Go.IntKind renaming i64 → J
set_option linter.unusedVariables false
set_option maxRecDepth 100000
set_option maxHeartbeats 2000000
open Go.Proofs.Tryz
namespace Go.Proofs.YtpbimdkclnekeaaGreat
open Go.RowKit Go.Maps Go.Shelf
attribute [local go_sem] Oper.semAt_some
theorem zgD(gf:Nat)(lb:Array Value)(eg:∀args w,(callFunc gf args).run prog w=.ok (.enter gf args) w){ex:Nat->Prop}{n N:Nat}{S:List Lse->Prop}(f:Lse->Int)(w:World)(hn:n<=w.1.size)
  (M:∀(x:Lse) (W:World),Below w.1.size w W->Calls prog 130 #[.agg #[I J x.kd,I J x.s.t,I J x.s.se,I J x.s.we,I J x.slot,I J x.til]] W fun e W'=>e=.returned (I J (f x))/\Below W.1.size W W')
  (j:jw ex n prog gf lb (fun x:Lse=>#[.agg #[I J x.kd,I J x.s.t,I J x.s.se,I J x.s.we,I J x.slot,I J x.til]]) S N w):
  Calls prog 128 #[.func (.func gf) #[] lb,.func (.func 130) #[] #[]] w fun e w'=>∃xs,S xs/\e=.returned (I J (vn (xs.map f)))/\Below w.1.size w w':=by
 have y:=ze M
 have z:=ze j
 have T:=ze eg
 obtain⟨b1,b2,H,bz⟩:=box2 w (.cells #[.func (.func 130) #[] #[]] 211) (.cells #[I J 0] 3)
 clear M j eg
 refine(callsIn_wide (n:=7)).1 ?_
 refine callsIn_of_wp_marks func128 rfl trivial ?_ rfl
 simp only[ntmps128,List.size_toArray,List.length_cons,List.length_nil,Nat.reduceAdd,Nat.reduceSub,Array.replicate_succ,Array.replicate_zero,List.push_toArray,List.append_toArray,List.nil_append,List.cons_append]
 have X:=ze b1
 have Y:=ze b2
 have m:=ze H
 have Z:=ze bz
 clear b1 b2 H bz
 gi_wp2
 obtain⟨V,E⟩:∃V,((w.alloc (.cells #[.func (.func 130) #[] #[]] 211)).alloc (.cells #[I J 0] 3))=V:=⟨_,rfl⟩
 rw[E]at X Y m Z ⊢
 clear E
 have hz:V.1.size=w.1.size+2:=ud Z
 refine yG (F:=Fence.wide) (n:=7) rfl (by omega) (gf:=gf) (lb:=lb) rfl trivial (ud T) (ud z (w.1.size+4) (by omega)) (by omega) (fun h k=>h.trans k) (fun W o o' h hc hw=>KX.putObj o' (by omega) (by omega) h hw) (ud m) (fun _=>rfl)
  (fun b W=>W.1[w.1.size]?=some (.cells #[.func (.func 130) #[] #[]] 211 (0,0))/\W.1[w.1.size+1]?=some (.cells #[I J (vn (b.map f))] 3 (0,0))/\Below w.1.size w W)
  (fun _ _ _=>False)
  (fun s A B row i L u=>⟨zG i.1 L (fun r e=>(u r e).2),zG i.2.1 L (fun r e=>(u r e).2),i.2.2.grown L (i.2.2.size) (fun k e=>by have:=(u k e).1;omega)⟩)
  (fun _ _ _ _ _ i _ _=>i)
  ⟨ud X,ud Y,ud m⟩
  (fun x a' W=>∃q,w.1.size+2<=q/\W.1[q]?=some (.cells #[I J x.kd,I J x.s.t,I J x.s.se,I J x.s.we,I J x.slot,I J x.til] 149 (0,0))/\a'={tmps:=#[.func (.func gf) #[] lb,.func (.func 130) #[] #[],undef,.pointer (some ⟨w.1.size,0,none⟩),I J 0,.pointer (some ⟨w.1.size+1,0,none⟩),.pointer (some ⟨q,0,none⟩),.func (.func gf) #[] lb,.agg #[I J x.kd,I J x.s.t,I J x.s.se,I J x.s.we,I J x.slot,I J x.til],undef,undef,undef,undef,undef,undef],defers:=[]})
  (fun x a' s A B row i L u=>by
   obtain⟨q,h1,h2,h3⟩:=i
   exact⟨q,h1,zG h2 L (fun r e=>(u r e).2),h3⟩) ?assign ?body ?done ?stop
 case assign=>
  rintro l b x W K ⟨i1,i2,i3⟩ C
  have P:=i3.size
  have a2:=zd i2
  have HK:=ze C
  clear C
  gi_wp2
  have G:=(Below.refl W.1.size W).alloc (Nat.le_refl _) (.cells #[I J x.kd,I J x.s.t,I J x.s.se,I J x.s.we,I J x.slot,I J x.til] 149)
  refine ud HK _ _ (zu G) (KX.of_below G) ⟨(Below.heap_alloc _ _ _ (by omega)).trans i1,(Below.heap_alloc _ _ _ (by omega)).trans i2,i3.alloc P _⟩ ⟨W.1.size,by omega,zo _ _,rfl⟩
 case body=>
  rintro l b x a' W hl ⟨r,u⟩ ⟨i1,i2,i3⟩ ⟨q,a0,Q,rfl⟩ a3
  have P:=i3.size
  have a1:=zd Q
  have O:=zd i2
  obtain⟨c1,-⟩:=zc i1
  obtain⟨c2,-⟩:=zc i2
  have f2:W.frozen? ⟨w.1.size+1,0,none⟩=false:=zD i2 0
  obtain⟨x0,x1,x2,x3,x4,x5,-⟩:=zc Q
  have U:=ze i2
  have v:=ze i1
  have d:=ze i3
  have HX:=ze Q
  have a4:prog.follows .mixedOrders=true:=by kernel_rfl
  have HC:=ze (ud y x W i3)
  have R:=ze (ud y x W.drew i3.drew)
  clear i1 i2 i3 Q
  gi_wp2
  gi_region_with_o (refine⟨trivial,?_⟩;gi_at_call 130;(first|refine(CallsIn.inRound l (callsIn_wide.2 (ud HC))).mono ?_|refine(CallsIn.inRound l (callsIn_wide.2 (ud R))).mono ?_);rintro e w' ⟨rfl,g⟩;have d2:w'.cell? ⟨w.1.size+1,0,none⟩=some (I J (vn (b.map f))):=(g.cell (p:=⟨w.1.size+1,0,none⟩) O).trans c2;have e2:w'.frozen? ⟨w.1.size+1,0,none⟩=false:=zD ((g.block _ O).trans (ud U)) 0;have a:=ze g;clear g)
  all_goals gi_wp2
  all_goals(try go_bits)
  all_goals(first|(rw[hz];exact yw (x:=x) rfl hn (ud v) (ud U) (ud d) ⟨(ud a).os,(ud a).tape,(ud a).output,(ud a).size,(ud a).block⟩)|exact yw (x:=x) rfl hn (ud v) (ud U) (ud d) ⟨(ud a).os,(ud a).tape,(ud a).output,(ud a).size,(ud a).block⟩)
 case done=>
  rintro D xs W hD hS ⟨i1,i2,i3⟩ C
  obtain⟨c2,-⟩:=zc i2
  have d:=ze i3
  clear i1 i2 i3
  gi_wp2
  refine⟨by simp,.inl ⟨_,_,rfl,run_takeDeferred C,?_⟩⟩
  exact⟨_,results_tmp rfl _ _ _,xs,hS,rfl,xD (ud d) (Nat.le_refl _) (by omega) C _⟩
 case stop=>
  rintro D c b W _ _ h _
  exact h.elim
attribute [local go_sem] Oper.semAt_some
theorem zgC{α:Type}(b:α->Sg)(gf:Nat)(lb:Array Value)(eg:∀args w,(callFunc gf args).run prog w=.ok (.enter gf args) w){ex:Nat->Prop}{n N:Nat}{S:List α->Prop}(f:α->Int)(w:World)(hn:n<=w.1.size)
  (O:∀(x:α) (W:World),Below w.1.size w W->Calls prog 195 #[.agg #[I J (b x).t,I J (b x).se,I J (b x).we]] W fun e W'=>e=.returned (I J (f x))/\Below W.1.size W W')
  (m:jw ex n prog gf lb (fun x:α=>#[.agg #[I J (b x).t,I J (b x).se,I J (b x).we]]) S N w):
  Calls prog 194 #[.func (.func gf) #[] lb,.func (.func 195) #[] #[]] w fun e w'=>∃xs,S xs/\e=.returned (I J (vn (xs.map f)))/\Below w.1.size w w':=by
 have z:=ze O
 have C:=ze m
 have U:=ze eg
 obtain⟨b1,b2,L,bz⟩:=box2 w (.cells #[.func (.func 195) #[] #[]] 264) (.cells #[I J 0] 3)
 clear O m eg
 refine(callsIn_wide (n:=7)).1 ?_
 refine callsIn_of_wp_marks func194 rfl trivial ?_ rfl
 simp only[ntmps194,List.size_toArray,List.length_cons,List.length_nil,Nat.reduceAdd,Nat.reduceSub,Array.replicate_succ,Array.replicate_zero,List.push_toArray,List.append_toArray,List.nil_append,List.cons_append]
 have Y:=ze b1
 have Z:=ze b2
 have q:=ze L
 have BZ:=ze bz
 clear b1 b2 L bz
 gi_wp2
 obtain⟨X,G⟩:∃X,((w.alloc (.cells #[.func (.func 195) #[] #[]] 264)).alloc (.cells #[I J 0] 3))=X:=⟨_,rfl⟩
 rw[G]at Y Z q BZ ⊢
 clear G
 have hz:X.1.size=w.1.size+2:=ud BZ
 refine yG (F:=Fence.wide) (n:=7) rfl (by omega) (gf:=gf) (lb:=lb) rfl trivial (ud U) (ud C (w.1.size+4) (by omega)) (by omega) (fun h k=>h.trans k) (fun W o o' h hc hw=>KX.putObj o' (by omega) (by omega) h hw) (ud q) (fun _=>rfl)
  (fun d W=>W.1[w.1.size]?=some (.cells #[.func (.func 195) #[] #[]] 264 (0,0))/\W.1[w.1.size+1]?=some (.cells #[I J (vn (d.map f))] 3 (0,0))/\Below w.1.size w W)
  (fun _ _ _=>False)
  (fun s A B row j M v=>⟨zG j.1 M (fun r e=>(v r e).2),zG j.2.1 M (fun r e=>(v r e).2),j.2.2.grown M (j.2.2.size) (fun k e=>by have:=(v k e).1;omega)⟩)
  (fun _ _ _ _ _ j _ _=>j)
  ⟨ud Y,ud Z,ud q⟩
  (fun x a' W=>∃u,w.1.size+2<=u/\W.1[u]?=some (.cells #[I J (b x).t,I J (b x).se,I J (b x).we] 137 (0,0))/\a'={tmps:=#[.func (.func gf) #[] lb,.func (.func 195) #[] #[],undef,.pointer (some ⟨w.1.size,0,none⟩),I J 0,.pointer (some ⟨w.1.size+1,0,none⟩),.pointer (some ⟨u,0,none⟩),.func (.func gf) #[] lb,.agg #[I J (b x).t,I J (b x).se,I J (b x).we],undef,undef,undef,undef,undef,undef],defers:=[]})
  (fun x a' s A B row j M v=>by
   obtain⟨u,h1,h2,h3⟩:=j
   exact⟨u,h1,zG h2 M (fun r e=>(v r e).2),h3⟩) ?assign ?body ?done ?stop
 case assign=>
  rintro l d x W K ⟨i1,i2,i3⟩ E
  have Q:=i3.size
  have a2:=zd i2
  have HK:=ze E
  clear E
  gi_wp2
  have H:=(Below.refl W.1.size W).alloc (Nat.le_refl _) (.cells #[I J (b x).t,I J (b x).se,I J (b x).we] 137)
  refine ud HK _ _ (zu H) (KX.of_below H) ⟨(Below.heap_alloc _ _ _ (by omega)).trans i1,(Below.heap_alloc _ _ _ (by omega)).trans i2,i3.alloc Q _⟩ ⟨W.1.size,by omega,zo _ _,rfl⟩
 case body=>
  rintro l d x a' W hl ⟨r,v⟩ ⟨i1,i2,i3⟩ ⟨u,a0,R,rfl⟩ a3
  have Q:=i3.size
  have a1:=zd R
  have P:=zd i2
  obtain⟨c1,-⟩:=zc i1
  obtain⟨c2,-⟩:=zc i2
  have f2:W.frozen? ⟨w.1.size+1,0,none⟩=false:=zD i2 0
  obtain⟨x0,x1,x2,-⟩:=zc R
  have V:=ze i2
  have y:=ze i1
  have g:=ze i3
  have HX:=ze R
  have a4:prog.follows .mixedOrders=true:=by kernel_rfl
  have HC:=ze (ud z x W i3)
  have T:=ze (ud z x W.drew i3.drew)
  clear i1 i2 i3 R
  gi_wp2
  gi_region_with_o (refine⟨trivial,?_⟩;gi_at_call 195;(first|refine(CallsIn.inRound l (callsIn_wide.2 (ud HC))).mono ?_|refine(CallsIn.inRound l (callsIn_wide.2 (ud T))).mono ?_);rintro e w' ⟨rfl,i⟩;have d2:w'.cell? ⟨w.1.size+1,0,none⟩=some (I J (vn (d.map f))):=(i.cell (p:=⟨w.1.size+1,0,none⟩) P).trans c2;have e2:w'.frozen? ⟨w.1.size+1,0,none⟩=false:=zD ((i.block _ P).trans (ud V)) 0;have a:=ze i;clear i)
  all_goals gi_wp2
  all_goals(try go_bits)
  all_goals(first|(rw[hz];exact yw (x:=x) rfl hn (ud y) (ud V) (ud g) ⟨(ud a).os,(ud a).tape,(ud a).output,(ud a).size,(ud a).block⟩)|exact yw (x:=x) rfl hn (ud y) (ud V) (ud g) ⟨(ud a).os,(ud a).tape,(ud a).output,(ud a).size,(ud a).block⟩)
 case done=>
  rintro D xs W hD hS ⟨i1,i2,i3⟩ E
  obtain⟨c2,-⟩:=zc i2
  have g:=ze i3
  clear i1 i2 i3
  gi_wp2
  refine⟨by simp,.inl ⟨_,_,rfl,run_takeDeferred E,?_⟩⟩
  exact⟨_,results_tmp rfl _ _ _,xs,hS,rfl,xD (ud g) (Nat.le_refl _) (by omega) E _⟩
 case stop=>
  rintro D c d W _ _ h _
  exact h.elim
end Go.Proofs.YtpbimdkclnekeaaGreat
