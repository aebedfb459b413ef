import Derived.Test.YtndhpgciopcncaaGreatDoorXConf0
set_option linter.unusedVariables false
set_option maxRecDepth 100000
set_option maxHeartbeats 2000000
namespace Go.Proofs.YtndhpgciopcncaaGreatDoor
open Go.RowKit Go.Maps Go.Shelf
attribute [local go_sem] Oper.semAt_some
theorem zke{α:Type}(b:α->Sg)(gf:Nat)(lb:Array Value)(eg:∀args w,(callFunc gf args).run Tryz.prog w=.ok (.enter gf args) w){ex:Nat->Prop}{n N:Nat}{S:List α->Prop}(f:α->Int)(w:World)(hn:n<=w.1.size)
  (M:∀(x:α) (W:World),B_ w W->Calls Tryz.prog 182 #[.agg #[I (b x).t,I (b x).se,I (b x).we]] W fun e W'=>e=.returned (I (f x))/\B_ W W')
  (m:Z8 ex n Tryz.prog gf lb (fun x:α=>#[.agg #[I (b x).t,I (b x).se,I (b x).we]]) S N w):
  Calls Tryz.prog 181 #[.func (.func gf) #[] lb,.func (.func 182) #[] #[]] w fun e w'=>∃xs,S xs/\e=.returned (I (vY (xs.map f)))/\B_ w w':=by
 have z:=ze M;have C:=ze m;have V:=ze eg;obtain⟨b1,b2,J,bz⟩:=box2 w (.cells #[.func (.func 182) #[] #[]] 261) zkK;clear M m eg;refine(callsIn_wide (n:=7)).1 ?_;refine callsIn_of_wp_marks Tryz.func181 rfl trivial ?_ rfl;simp only[Tryz.ntmps181,sZz,Nat.reduceAdd,Nat.reduceSub];have Z:=ze b1;have B2:=ze b2;have q:=ze J;have BZ:=ze bz;clear b1 b2 J bz;gi_wp2;obtain⟨Y,G⟩:∃Y,((w.alloc (.cells #[.func (.func 182) #[] #[]] 261)).alloc zkK)=Y:=⟨_,rfl⟩;rw[G]at Z B2 q BZ ⊢;clear G;have hz:Y.1.size=w.1.size+2:=ud BZ;refine yk (F:=Fence.wide) (n:=7) rfl (by omega) (gf:=gf) (lb:=lb) rfl trivial V (ud C (w.1.size+4) (by omega)) (by omega) (fun h k=>h.trans k) (fun W o o' h hc hw=>KX.putObj o' (by omega) (by omega) h hw) q (fun _=>rfl)
  (fun d W=>W.1[w.1.size]?=some (.cells #[.func (.func 182) #[] #[]] 261 (0,0))/\W.1[w.1.size+1]?=some (.cells #[I (vY (d.map f))] 3 (0,0))/\B_ w W)
  (fun _ _ _=>False)
  (fun s A B row j L v=>⟨zH j.1 L (fun r e=>(v r e).2),zH j.2.1 L (fun r e=>(v r e).2),j.2.2.grown L (j.2.2.size) (fun k e=>by have:=(v k e).1;omega)⟩)
  (fun _ _ _ _ _ j _ _=>j)
  ⟨Z,B2,q⟩
  (fun x a' W=>∃u,w.1.size+2<=u/\W.1[u]?=some (.cells #[I (b x).t,I (b x).se,I (b x).we] 146 (0,0))/\a'={tmps:=#[.func (.func gf) #[] lb,.func (.func 182) #[] #[],undef,(O w.1.size),I 0,(O (w.1.size+1)),(O u),.func (.func gf) #[] lb,.agg #[I (b x).t,I (b x).se,I (b x).we],undef,undef,undef,undef,undef,undef],defers:=[]})
  (fun x a' s A B row j L v=>by
   obtain⟨u,h1,h2,h3⟩:=j;exact⟨u,h1,zH h2 L (fun r e=>(v r e).2),h3⟩) ?assign ?body ?done ?stop
 case assign=>
  rintro l d x W K ⟨i1,i2,i3⟩ E;have Q:=i3.size;have a2:=zd i2;have HK:=ze E;clear E;gi_wp2;have H:=(Below.refl W.1.size W).alloc (Nat.le_refl _) (.cells #[I (b x).t,I (b x).se,I (b x).we] 146);refine ud HK _ _ (zu H) (KX.of_below H) ⟨(Below.heap_alloc _ _ _ (by omega)).trans i1,(Below.heap_alloc _ _ _ (by omega)).trans i2,i3.alloc Q _⟩ ⟨W.1.size,by omega,zo _ _,rfl⟩
 case body=>
  rintro l d x a' W hl ⟨r,v⟩ ⟨i1,i2,i3⟩ ⟨u,a0,R,rfl⟩ a3;have Q:=i3.size;have a1:=zd R;have P:=zd i2;obtain⟨c1,-⟩:=zc i1;obtain⟨c2,-⟩:=zc i2;have f2:W.frozen? (U (w.1.size+1) 0)=false:=zI i2 0;obtain⟨x0,x1,x2,-⟩:=zc R;have X:=ze i2;have y:=ze i1;have g:=ze i3;have HX:=ze R;have a4:Tryz.prog.follows .mixedOrders=true:=by kernel_rfl
  have HC:=ze (ud z x W i3);have T:=ze (ud z x W.drew i3.drew);clear i1 i2 i3 R;gi_wp2
  gi_region_with_o (refine⟨trivial,?_⟩;gi_at_call 182;(first|refine(CallsIn.inRound l (callsIn_wide.2 HC)).mono ?_|refine(CallsIn.inRound l (callsIn_wide.2 T)).mono ?_);rintro e w' ⟨rfl,i⟩;have d2:Cz w' (w.1.size+1) 0 (I (vY (d.map f))):=(i.cell (p:=(U (w.1.size+1) 0)) P).trans c2;have e2:w'.frozen? (U (w.1.size+1) 0)=false:=zI ((i.block _ P).trans X) 0;have a:=ze i;clear i)
  all_goals gi_wp2
  all_goals(try go_bits)
  all_goals(first|(rw[hz];exact yQ (x:=x) rfl hn y X g ⟨a.os,a.tape,a.output,a.size,a.block⟩)|exact yQ (x:=x) rfl hn y X g ⟨a.os,a.tape,a.output,a.size,a.block⟩)
 case done=>
  rintro D xs W hD hS ⟨i1,i2,i3⟩ E;obtain⟨c2,-⟩:=zc i2;have g:=ze i3;clear i1 i2 i3;gi_wp2;refine⟨by simp,.inl ⟨_,_,rfl,run_takeDeferred E,?_⟩⟩;exact⟨_,results_tmp rfl _ _ _,xs,hS,rfl,xG g (Nat.le_refl _) (by omega) E _⟩
 case stop=>
  rintro D c d W _ _ h _;exact h.elim
