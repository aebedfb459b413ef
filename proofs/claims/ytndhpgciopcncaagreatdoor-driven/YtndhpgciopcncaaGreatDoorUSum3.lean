import Derived.Test.YtndhpgciopcncaaGreatDoorUWhr0
open Go.Value (int)
open Go.IntKind (i64)
set_option linter.unusedVariables false
set_option maxRecDepth 100000
set_option maxHeartbeats 2000000
namespace Go.Proofs.YtndhpgciopcncaaGreatDoor
open Go.RowKit Go.Maps Go.Shelf
attribute [local go_sem] Oper.semAt_some
theorem zdN{α:Type}(b:α->Sg)(gf:Nat)(lb:Array Value)(eg:∀args w,(callFunc gf args).run Tryz.prog w=.ok (.enter gf args) w){ex:Nat->Prop}{n N:Nat}{S:List α->Prop}(f:α->Int)(w:World)(hn:n<=w.1.size)
  (L:∀(x:α) (W:World),Below w.1.size w W->Calls Tryz.prog 182 #[.agg #[int i64 (b x).t,int i64 (b x).sr,int i64 (b x).wa]] W fun e W'=>e=.returned (int i64 (f x))/\Below W.1.size W W')
  (m:kN ex n Tryz.prog gf lb (fun x:α=>#[.agg #[int i64 (b x).t,int i64 (b x).sr,int i64 (b x).wa]]) S N w):
  Calls Tryz.prog 181 #[.func (.func gf) #[] lb,.func (.func 182) #[] #[]] w fun e w'=>∃xs,S xs/\e=.returned (int i64 (kq (xs.map f)))/\Below w.1.size w w':=by
 have z:=zd L
 have C:=zd m
 have R:=zd eg
 obtain⟨b1,b2,I,bz⟩:=box2 w (.cells #[.func (.func 182) #[] #[]] 261) (.cells #[int i64 0] 3)
 clear L m eg
 refine(callsIn_wide (n:=7)).1 ?_
 refine callsIn_of_wp_marks Tryz.func181 rfl trivial ?_ rfl
 simp only[Tryz.ntmps181,List.size_toArray,List.length_cons,List.length_nil,Nat.reduceAdd,Nat.reduceSub,Array.replicate_succ,Array.replicate_zero,List.push_toArray,List.append_toArray,List.nil_append,List.cons_append]
 have Y:=zd b1
 have Z:=zd b2
 have q:=zd I
 have BZ:=zd bz
 clear b1 b2 I bz
 gi_wp2
 obtain⟨U,G⟩:∃U,((w.alloc (.cells #[.func (.func 182) #[] #[]] 261)).alloc (.cells #[int i64 0] 3))=U:=⟨_,rfl⟩
 rw[G]at Y Z q BZ ⊢
 clear G
 have hz:U.1.size=w.1.size+2:=ud BZ
 refine qD (F:=Fence.wide) (n:=7) rfl (by omega) (gf:=gf) (lb:=lb) rfl trivial (ud R) (ud C (w.1.size+4) (by omega)) (by omega) (fun h k=>h.trans k) (fun W o o' h hc hw=>KX.putObj o' (by omega) (by omega) h hw) (ud q) (fun _=>rfl)
  (fun d W=>W.1[w.1.size]?=some (.cells #[.func (.func 182) #[] #[]] 261 (0,0))/\W.1[w.1.size+1]?=some (.cells #[int i64 (kq (d.map f))] 3 (0,0))/\Below w.1.size w W)
  (fun _ _ _=>False)
  (fun s A B X j J v=>⟨zt j.1 J (fun r e=>(v r e).2),zt j.2.1 J (fun r e=>(v r e).2),j.2.2.grown J (j.2.2.size) (fun k e=>by have:=(v k e).1;omega)⟩)
  (fun _ _ _ _ _ j _ _=>j)
  ⟨ud Y,ud Z,ud q⟩
  (fun x V W=>∃u,w.1.size+2<=u/\W.1[u]?=some (.cells #[int i64 (b x).t,int i64 (b x).sr,int i64 (b x).wa] 146 (0,0))/\V={tmps:=#[.func (.func gf) #[] lb,.func (.func 182) #[] #[],undef,.pointer (some ⟨w.1.size,0,none⟩),int i64 0,.pointer (some ⟨w.1.size+1,0,none⟩),.pointer (some ⟨u,0,none⟩),.func (.func gf) #[] lb,.agg #[int i64 (b x).t,int i64 (b x).sr,int i64 (b x).wa],undef,undef,undef,undef,undef,undef],defers:=[]})
  (fun x V s A B X j J v=>by
   obtain⟨u,h1,h2,h3⟩:=j
   exact⟨u,h1,zt h2 J (fun r e=>(v r e).2),h3⟩) ?assign ?body ?done ?stop
 case assign=>
  rintro l d x W K ⟨i1,i2,i3⟩ E
  have O:=i3.size
  have a2:=za i2
  have HK:=zd E
  clear E
  gi_wp2
  have H:=(Below.refl W.1.size W).alloc (Nat.le_refl _) (.cells #[int i64 (b x).t,int i64 (b x).sr,int i64 (b x).wa] 146)
  refine ud HK _ _ (zh H) (KX.of_below H) ⟨(Below.heap_alloc _ _ _ (by omega)).trans i1,(Below.heap_alloc _ _ _ (by omega)).trans i2,i3.alloc O _⟩ ⟨W.1.size,by omega,zm _ _,rfl⟩
 case body=>
  rintro l d x V W hl ⟨r,v⟩ ⟨i1,i2,i3⟩ ⟨u,a0,P,rfl⟩ a3
  have O:=i3.size
  have a1:=za P
  have M:=za i2
  obtain⟨c1,-⟩:=zc i1
  obtain⟨c2,-⟩:=zc i2
  have f2:W.frozen? ⟨w.1.size+1,0,none⟩=false:=zE i2 0
  obtain⟨x0,x1,x2,-⟩:=zc P
  have T:=zd i2
  have y:=zd i1
  have g:=zd i3
  have HX:=zd P
  have a4:Tryz.prog.follows .mixedOrders=true:=by kernel_rfl
  have HC:=zd (ud z x W i3)
  have Q:=zd (ud z x W.drew i3.drew)
  clear i1 i2 i3 P
  gi_wp2
  gi_region_with_o (refine⟨trivial,?_⟩;gi_at_call 182;(first|refine(CallsIn.inRound l (callsIn_wide.2 (ud HC))).mono ?_|refine(CallsIn.inRound l (callsIn_wide.2 (ud Q))).mono ?_);rintro e w' ⟨rfl,i⟩;have d2:w'.cell? ⟨w.1.size+1,0,none⟩=some (int i64 (kq (d.map f))):=(i.cell (p:=⟨w.1.size+1,0,none⟩) M).trans c2;have e2:w'.frozen? ⟨w.1.size+1,0,none⟩=false:=zE ((i.block _ M).trans (ud T)) 0;have a:=zd i;clear i)
  all_goals gi_wp2
  all_goals(try go_bits)
  all_goals(first|(rw[hz];exact qU (x:=x) rfl hn (ud y) (ud T) (ud g) ⟨(ud a).os,(ud a).tape,(ud a).output,(ud a).size,(ud a).block⟩)|exact qU (x:=x) rfl hn (ud y) (ud T) (ud g) ⟨(ud a).os,(ud a).tape,(ud a).output,(ud a).size,(ud a).block⟩)
 case done=>
  rintro D xs W hD hS ⟨i1,i2,i3⟩ E
  obtain⟨c2,-⟩:=zc i2
  have g:=zd i3
  clear i1 i2 i3
  gi_wp2
  refine⟨by simp,.inl ⟨_,_,rfl,run_takeDeferred E,?_⟩⟩
  exact⟨_,results_tmp rfl _ _ _,xs,hS,rfl,xj (ud g) (Nat.le_refl _) (by omega) E _⟩
 case stop=>
  rintro D c d W _ _ h _
  exact h.elim
end Go.Proofs.YtndhpgciopcncaaGreatDoor
