import Derived.Test.YtpbimdkclnekeaaGreatVWhr0
open Go.Value (int)
open Go.IntKind (i64)
open Go.IntKind (i32)
set_option linter.unusedVariables false
set_option maxRecDepth 100000
set_option maxHeartbeats 2000000
namespace Go.Proofs.YtpbimdkclnekeaaGreat
open Go.RowKit Go.Maps Go.Shelf
attribute [local go_sem] Oper.semAt_some
theorem zgE(gf:Nat)(lb:Array Value)(eg:∀args w,(callFunc gf args).run Tryz.prog w=.ok (.enter gf args) w){ex:Nat->Prop}{n N:Nat}{S:List SV->Prop}(f:SV->Int)(w:World)(hn:n<=w.1.size)
  (I:∀(x:SV) (W:World),Below w.1.size w W->Calls Tryz.prog 127 #[.agg #[int i64 x.st,int i64 x.cl.cnt,int i64 x.cl.sum,int i32 x.cl.mn,int i32 x.cl.mx]] W fun e W'=>e=.returned (int i64 (f x))/\Below W.1.size W W')
  (j:jw ex n Tryz.prog gf lb (fun x:SV=>#[.agg #[int i64 x.st,int i64 x.cl.cnt,int i64 x.cl.sum,int i32 x.cl.mn,int i32 x.cl.mx]]) S N w):
  Calls Tryz.prog 70 #[.func (.func gf) #[] lb,.func (.func 127) #[] #[]] w fun e w'=>∃xs,S xs/\e=.returned (int i64 (vn (xs.map f)))/\Below w.1.size w w':=by
 have v:=ze I
 have y:=ze j
 have P:=ze eg
 obtain⟨X,Y,G,Z⟩:=box2 w (.cells #[.func (.func 127) #[] #[]] 141) (.cells #[int i64 0] 3)
 clear I j eg
 refine(callsIn_wide (n:=7)).1 ?_
 refine callsIn_of_wp_marks Tryz.func70 rfl trivial ?_ rfl
 simp only[Tryz.ntmps70,List.size_toArray,List.length_cons,List.length_nil,Nat.reduceAdd,Nat.reduceSub,Array.replicate_succ,Array.replicate_zero,List.push_toArray,List.append_toArray,List.nil_append,List.cons_append]
 have T:=ze X
 have U:=ze Y
 have m:=ze G
 have V:=ze Z
 clear X Y G Z
 gi_wp2
 obtain⟨R,C⟩:∃R,((w.alloc (.cells #[.func (.func 127) #[] #[]] 141)).alloc (.cells #[int i64 0] 3))=R:=⟨_,rfl⟩
 rw[C]at T U m V ⊢
 clear C
 have hz:R.1.size=w.1.size+2:=ud V
 refine yG (F:=Fence.wide) (n:=7) rfl (by omega) (gf:=gf) (lb:=lb) rfl trivial (ud P) (ud y (w.1.size+4) (by omega)) (by omega) (fun h k=>h.trans k) (fun W o o' h hc hw=>KX.putObj o' (by omega) (by omega) h hw) (ud m) (fun _=>rfl)
  (fun b W=>W.1[w.1.size]?=some (.cells #[.func (.func 127) #[] #[]] 141 (0,0))/\W.1[w.1.size+1]?=some (.cells #[int i64 (vn (b.map f))] 3 (0,0))/\Below w.1.size w W)
  (fun _ _ _=>False)
  (fun s A B row i H t=>⟨zG i.1 H (fun r e=>(t r e).2),zG i.2.1 H (fun r e=>(t r e).2),i.2.2.grown H (i.2.2.size) (fun k e=>by have:=(t k e).1;omega)⟩)
  (fun _ _ _ _ _ i _ _=>i)
  ⟨ud T,ud U,ud m⟩
  (fun x a' W=>∃q,w.1.size+2<=q/\W.1[q]?=some (.cells #[int i64 x.st,int i64 x.cl.cnt,int i64 x.cl.sum,int i32 x.cl.mn,int i32 x.cl.mx] 131 (0,0))/\a'={tmps:=#[.func (.func gf) #[] lb,.func (.func 127) #[] #[],undef,.pointer (some ⟨w.1.size,0,none⟩),int i64 0,.pointer (some ⟨w.1.size+1,0,none⟩),.pointer (some ⟨q,0,none⟩),.func (.func gf) #[] lb,.agg #[int i64 x.st,int i64 x.cl.cnt,int i64 x.cl.sum,int i32 x.cl.mn,int i32 x.cl.mx],undef,undef,undef,undef,undef,undef],defers:=[]})
  (fun x a' s A B row i H t=>by
   obtain⟨q,h1,h2,h3⟩:=i
   exact⟨q,h1,zG h2 H (fun r e=>(t r e).2),h3⟩) ?assign ?body ?done ?stop
 case assign=>
  rintro l b x W K ⟨i1,i2,i3⟩ z
  have L:=i3.size
  have a2:=zd i2
  have HK:=ze z
  clear z
  gi_wp2
  have E:=(Below.refl W.1.size W).alloc (Nat.le_refl _) (.cells #[int i64 x.st,int i64 x.cl.cnt,int i64 x.cl.sum,int i32 x.cl.mn,int i32 x.cl.mx] 131)
  refine ud HK _ _ (zu E) (KX.of_below E) ⟨(Below.heap_alloc _ _ _ (by omega)).trans i1,(Below.heap_alloc _ _ _ (by omega)).trans i2,i3.alloc L _⟩ ⟨W.1.size,by omega,zo _ _,rfl⟩
 case body=>
  rintro l b x a' W hl ⟨r,t⟩ ⟨i1,i2,i3⟩ ⟨q,a0,M,rfl⟩ a3
  have L:=i3.size
  have a1:=zd M
  have J:=zd i2
  obtain⟨c1,-⟩:=zc i1
  obtain⟨c2,-⟩:=zc i2
  have f2:W.frozen? ⟨w.1.size+1,0,none⟩=false:=zD i2 0
  obtain⟨x0,x1,x2,x3,x4,-⟩:=zc M
  have Q:=ze i2
  have u:=ze i1
  have d:=ze i3
  have HX:=ze M
  have a4:Tryz.prog.follows .mixedOrders=true:=by kernel_rfl
  have HC:=ze (ud v x W i3)
  have O:=ze (ud v x W.drew i3.drew)
  clear i1 i2 i3 M
  gi_wp2
  gi_region_with_o (refine⟨trivial,?_⟩;gi_at_call 127;(first|refine(CallsIn.inRound l (callsIn_wide.2 (ud HC))).mono ?_|refine(CallsIn.inRound l (callsIn_wide.2 (ud O))).mono ?_);rintro e w' ⟨rfl,g⟩;have d2:w'.cell? ⟨w.1.size+1,0,none⟩=some (int i64 (vn (b.map f))):=(g.cell (p:=⟨w.1.size+1,0,none⟩) J).trans c2;have e2:w'.frozen? ⟨w.1.size+1,0,none⟩=false:=zD ((g.block _ J).trans (ud Q)) 0;have a:=ze g;clear g)
  all_goals gi_wp2
  all_goals(try go_bits)
  all_goals(first|(rw[hz];exact yw (x:=x) rfl hn (ud u) (ud Q) (ud d) ⟨(ud a).os,(ud a).tape,(ud a).output,(ud a).size,(ud a).block⟩)|exact yw (x:=x) rfl hn (ud u) (ud Q) (ud d) ⟨(ud a).os,(ud a).tape,(ud a).output,(ud a).size,(ud a).block⟩)
 case done=>
  rintro D xs W hD hS ⟨i1,i2,i3⟩ z
  obtain⟨c2,-⟩:=zc i2
  have d:=ze i3
  clear i1 i2 i3
  gi_wp2
  refine⟨by simp,.inl ⟨_,_,rfl,run_takeDeferred z,?_⟩⟩
  exact⟨_,results_tmp rfl _ _ _,xs,hS,rfl,xD (ud d) (Nat.le_refl _) (by omega) z _⟩
 case stop=>
  rintro D c b W _ _ h _
  exact h.elim
end Go.Proofs.YtpbimdkclnekeaaGreat
