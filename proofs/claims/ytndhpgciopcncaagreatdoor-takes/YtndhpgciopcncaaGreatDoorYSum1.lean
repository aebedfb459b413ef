import Derived.Test.YtndhpgciopcncaaGreatDoorYWhr0
open Go.Value renaming int → I
open Go.IntKind renaming i64 → J
open Go.IntKind (i32)
set_option linter.unusedVariables false
set_option maxRecDepth 100000
set_option maxHeartbeats 2000000
namespace Go.Proofs.YtndhpgciopcncaaGreatDoor
open Go.RowKit Go.Maps Go.Shelf
attribute [local go_sem] Oper.semAt_some
theorem zfz(gf:Nat)(lb:Array Value)(eg:∀args w,(callFunc gf args).run Tryz.prog w=.ok (.enter gf args) w){ex:Nat->Prop}{n N:Nat}{S:List SX->Prop}(f:SX->Int)(w:World)(hn:n<=w.1.size)
  (O:∀(x:SX) (W:World),Below w.1.size w W->Calls Tryz.prog 152 #[.agg #[I J x.1.t,I J x.1.se,I J x.1.wn,I J x.2.st,I J x.2.cl.cnt,I J x.2.cl.sum,I i32 x.2.cl.mn,I i32 x.2.cl.mx]] W fun e W'=>e=.returned (I J (f x))/\Below W.1.size W W')
  (j:jW ex n Tryz.prog gf lb (fun x:SX=>#[.agg #[I J x.1.t,I J x.1.se,I J x.1.wn,I J x.2.st,I J x.2.cl.cnt,I J x.2.cl.sum,I i32 x.2.cl.mn,I i32 x.2.cl.mx]]) S N w):
  Calls Tryz.prog 87 #[.func (.func gf) #[] lb,.func (.func 152) #[] #[]] w fun e w'=>∃xs,S xs/\e=.returned (I J (kW (xs.map f)))/\Below w.1.size w w':=by
 have z:=zd O
 have C:=zd j
 have U:=zd eg
 obtain⟨b1,b2,L,bz⟩:=box2 w (.cells #[.func (.func 152) #[] #[]] 156) (.cells #[I J 0] 3)
 clear O j eg
 refine(callsIn_wide (n:=7)).1 ?_
 refine callsIn_of_wp_marks Tryz.func87 rfl trivial ?_ rfl
 simp only[Tryz.ntmps87,List.size_toArray,List.length_cons,List.length_nil,Nat.reduceAdd,Nat.reduceSub,Array.replicate_succ,Array.replicate_zero,List.push_toArray,List.append_toArray,List.nil_append,List.cons_append]
 have Z:=zd b1
 have B2:=zd b2
 have m:=zd L
 have BZ:=zd bz
 clear b1 b2 L bz
 gi_wp2
 obtain⟨X,G⟩:∃X,((w.alloc (.cells #[.func (.func 152) #[] #[]] 156)).alloc (.cells #[I J 0] 3))=X:=⟨_,rfl⟩
 rw[G]at Z B2 m BZ ⊢
 clear G
 have hz:X.1.size=w.1.size+2:=ud BZ
 refine yM (F:=Fence.wide) (n:=7) rfl (by omega) (gf:=gf) (lb:=lb) rfl trivial (ud U) (ud C (w.1.size+4) (by omega)) (by omega) (fun h k=>h.trans k) (fun W o o' h hc hw=>KX.putObj o' (by omega) (by omega) h hw) (ud m) (fun _=>rfl)
  (fun b W=>W.1[w.1.size]?=some (.cells #[.func (.func 152) #[] #[]] 156 (0,0))/\W.1[w.1.size+1]?=some (.cells #[I J (kW (b.map f))] 3 (0,0))/\Below w.1.size w W)
  (fun _ _ _=>False)
  (fun s A B row i M v=>⟨zI i.1 M (fun r e=>(v r e).2),zI i.2.1 M (fun r e=>(v r e).2),i.2.2.grown M (i.2.2.size) (fun k e=>by have:=(v k e).1;omega)⟩)
  (fun _ _ _ _ _ i _ _=>i)
  ⟨ud Z,ud B2,ud m⟩
  (fun x Y W=>∃u,w.1.size+2<=u/\W.1[u]?=some (.cells #[I J x.1.t,I J x.1.se,I J x.1.wn,I J x.2.st,I J x.2.cl.cnt,I J x.2.cl.sum,I i32 x.2.cl.mn,I i32 x.2.cl.mx] 148 (0,0))/\Y={tmps:=#[.func (.func gf) #[] lb,.func (.func 152) #[] #[],undef,.pointer (some ⟨w.1.size,0,none⟩),I J 0,.pointer (some ⟨w.1.size+1,0,none⟩),.pointer (some ⟨u,0,none⟩),.func (.func gf) #[] lb,.agg #[I J x.1.t,I J x.1.se,I J x.1.wn,I J x.2.st,I J x.2.cl.cnt,I J x.2.cl.sum,I i32 x.2.cl.mn,I i32 x.2.cl.mx],undef,undef,undef,undef,undef,undef],defers:=[]})
  (fun x Y s A B row i M v=>by
   obtain⟨u,h1,h2,h3⟩:=i
   exact⟨u,h1,zI h2 M (fun r e=>(v r e).2),h3⟩) ?assign ?body ?done ?stop
 case assign=>
  rintro l b x W K ⟨q,i2,i3⟩ E
  have Q:=i3.size
  have a2:=zb i2
  have HK:=zd E
  clear E
  gi_wp2
  have H:=(Below.refl W.1.size W).alloc (Nat.le_refl _) (.cells #[I J x.1.t,I J x.1.se,I J x.1.wn,I J x.2.st,I J x.2.cl.cnt,I J x.2.cl.sum,I i32 x.2.cl.mn,I i32 x.2.cl.mx] 148)
  refine ud HK _ _ (zw H) (KX.of_below H) ⟨(Below.heap_alloc _ _ _ (by omega)).trans q,(Below.heap_alloc _ _ _ (by omega)).trans i2,i3.alloc Q _⟩ ⟨W.1.size,by omega,zr _ _,rfl⟩
 case body=>
  rintro l b x Y W hl ⟨r,v⟩ ⟨q,i2,i3⟩ ⟨u,a0,R,rfl⟩ a3
  have Q:=i3.size
  have a1:=zb R
  have P:=zb i2
  obtain⟨c1,-⟩:=zc q
  obtain⟨c2,-⟩:=zc i2
  have f2:W.frozen? ⟨w.1.size+1,0,none⟩=false:=zH i2 0
  obtain⟨x0,x1,x2,x3,x4,x5,x6,x7,-⟩:=zc R
  have V:=zd i2
  have y:=zd q
  have d:=zd i3
  have HX:=zd R
  have a4:Tryz.prog.follows .mixedOrders=true:=by kernel_rfl
  have HC:=zd (ud z x W i3)
  have T:=zd (ud z x W.drew i3.drew)
  clear q i2 i3 R
  gi_wp2
  gi_region_with_o (refine⟨trivial,?_⟩;gi_at_call 152;(first|refine(CallsIn.inRound l (callsIn_wide.2 (ud HC))).mono ?_|refine(CallsIn.inRound l (callsIn_wide.2 (ud T))).mono ?_);rintro e w' ⟨rfl,g⟩;have d2:w'.cell? ⟨w.1.size+1,0,none⟩=some (I J (kW (b.map f))):=(g.cell (p:=⟨w.1.size+1,0,none⟩) P).trans c2;have e2:w'.frozen? ⟨w.1.size+1,0,none⟩=false:=zH ((g.block _ P).trans (ud V)) 0;have a:=zd g;clear g)
  all_goals gi_wp2
  all_goals(try go_bits)
  all_goals(first|(rw[hz];exact kg (x:=x) rfl hn (ud y) (ud V) (ud d) ⟨(ud a).os,(ud a).tape,(ud a).output,(ud a).size,(ud a).block⟩)|exact kg (x:=x) rfl hn (ud y) (ud V) (ud d) ⟨(ud a).os,(ud a).tape,(ud a).output,(ud a).size,(ud a).block⟩)
 case done=>
  rintro D xs W hD hS ⟨q,i2,i3⟩ E
  obtain⟨c2,-⟩:=zc i2
  have d:=zd i3
  clear q i2 i3
  gi_wp2
  refine⟨by simp,.inl ⟨_,_,rfl,run_takeDeferred E,?_⟩⟩
  exact⟨_,results_tmp rfl _ _ _,xs,hS,rfl,xE (ud d) (Nat.le_refl _) (by omega) E _⟩
 case stop=>
  rintro D c b W _ _ h _
  exact h.elim
end Go.Proofs.YtndhpgciopcncaaGreatDoor
