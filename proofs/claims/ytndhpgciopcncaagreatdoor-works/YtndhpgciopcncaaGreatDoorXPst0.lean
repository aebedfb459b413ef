import Derived.Test.YtndhpgciopcncaaGreatDoorXMlz0
open Go.RowKit.Below renaming refl → J
open Nat renaming le_refl → E
open Nat renaming lt_of_lt_of_le → Q
set_option linter.unusedVariables false
set_option maxRecDepth 100000
set_option maxHeartbeats 8000000
open Go renaming undef → u_
namespace Go.Proofs.YtndhpgciopcncaaGreatDoor
open Go.RowKit Go.Maps Go.Shelf
open Go.ChangeMaps (setBlock)
variable {c:Cf}
attribute [local go_sem] Oper.semAt_some
theorem zjo(now:Int)(TL:List (Jk×Tsk))(s:Sg):(yr now TL s).length<=TL.length+1:=by
 unfold yr;split
 ·omega
 ·rw[vN];split<;>omega
theorem zjn(now:Int)(TL:List (Jk×Tsk))(s:Sg):(yV now TL s).length<=TL.length+1:=by
 unfold yV;split
 ·omega
 ·rw[vN];split<;>omega
theorem QX(now:Int):∀(l:List Sg) (TL:List (Jk×Tsk)),(l.foldl (yr now) TL).length<=TL.length+l.length
 |[],TL=>by simp
 |s::l,TL=>by have a:=QX now l (yr now TL s);have b:=zjo now TL s;simp only[List.foldl_cons,List.length_cons];omega
theorem Jl(now:Int):∀(l:List Sg) (TL:List (Jk×Tsk)),(l.foldl (yV now) TL).length<=TL.length+l.length
 |[],TL=>by simp
 |s::l,TL=>by have a:=Jl now l (yV now TL s);have b:=zjn now TL s;simp only[List.foldl_cons,List.length_cons];omega
theorem zes{L ps:LV}(e:∀p∈L,inR c p.1)(h:ps.Perm L)(f:Sg->Bool)(s:Sg):s∈(((ps.map (fun p:Sg×SV=>zgC c p.1)).filter (fun x=>f x.1)).map (fun x:RSg c=>x.1))↔s∈zw L/\f s=true:=by
 constructor
 ·intro j;obtain⟨q,i,rfl⟩:=List.mem_map.1 j;obtain⟨d,b⟩:=List.mem_filter.1 i;obtain⟨p,g,rfl⟩:=List.mem_map.1 d;have a:=h.mem_iff.1 g;rw[vv (e p a)]at b ⊢;exact⟨List.mem_map.2 ⟨p,a,rfl⟩,b⟩
 ·rintro⟨d,b⟩;obtain⟨p,a,rfl⟩:=List.mem_map.1 (show s∈L.map (·.1)from d);refine List.mem_map.2 ⟨zgC c p.1,List.mem_filter.2 ⟨List.mem_map.2 ⟨p,h.mem_iff.2 a,rfl⟩,?_⟩,vv (e p a)⟩;rw[vv (e p a)];exact b
theorem zap{dn:Bool}{w:World}{i:Ids}{ep:Int}{m:MS}(h:qk dn w i c ep m)(hc:c.ok)(hL:∀p∈m.L,inR c p.1)(aQ:m.L.length<=2000)(R:0<=m.now/\m.now<=100000)(bs:m.TL.length<=50000):
  Calls Tryz.prog 55 #[(O i.x)] w fun e w'=>e=.returned (.tuple #[])/\∃TL',qk dn w' i c ep {m with TL:=TL'}/\zj (fun k=>k=i.tb) w w'/\qN c m TL':=by
 have bv:=h.lt;have a:B_ w (w.alloc (.cells #[(O i.x)] 38)):=(J _ _).alloc (E _) _;have q0:=zo w (.cells #[(O i.x)] 38);have qz:=zE w (.cells #[(O i.x)] 38);obtain⟨-,-,-,-,-,-,-,-,c8,c9,b7⟩:=(h.later a).cells;obtain⟨p0,-⟩:=zc q0;have ar:=(h.later a).lt;have aq:=zd q0;have aj:=fun W hW=>ze (zcf ((h.later (w':=W) hW).set) hc hL aQ m.now R);have bp:=fun W hW=>ze (vS ((h.later (w':=W) hW).set) hc hL m.now R);have H:=ze h;have Q0:=ze q0;have QZ:=ze qz;have af:=ze a;clear h q0 qz a;refine(callsIn_wide (n:=7)).1 ?_;refine callsIn_of_wp_marks Tryz.func55 rfl trivial ?_ rfl;simp only[Tryz.ntmps55,sZz,Nat.reduceAdd,Nat.reduceSub];refine wpIn_wide.2 ?_;go_wp2_with fail;generalize(w.alloc (.cells #[(O i.x)] 38))=X at*;have a6:=ud af;have bg:X.1.size=w.1.size+1:=ud QZ;have bh:=a6.size;have aF:=aj X a6;have aG:=aj X.drew a6.drew;have a3:=ze (H.foot_lt);clear aj a6 bh bg;go_region_held3 (fun w'=>w'.cell? (U w.1.size 0)=some (O i.x)/\w'.cell? (U i.x 8)=some (I m.now)/\w'.cell? (U i.x 9)=some (O i.s)) (go_keep) (first
  |(go_at_call 112;(first|(with_reducible refine(ud aF).mono ?_)|(with_reducible refine(ud aG).mono ?_));rintro e X1 ⟨Bl,Bh,Bs,rfl,g,aJ,aT⟩;have G:B_ X X1:=⟨g.os,g.tape,g.output,g.size,g.block⟩;have p1:=(G.cell (p:=(U w.1.size 0)) aq).trans p0;have d8:=(G.cell (p:=(U i.x 8)) ar).trans c8;have d9:=(G.cell (p:=(U i.x 9)) ar).trans c9;have aS:=Q aq G.size;have bn:=Q ar G.size;have ae:=ze G;have aU:=ze aJ;have aI:=ze aT;clear g G aJ aT aF aG))
 all_goals go_wp2_with fail
 all_goals
  have bw:=ae.size
  have a1:B_ w X1:=af.trans (ae.mono af.size)
  have ak:=H.later a1
  have aN:=(ae.block _ aq).trans Q0
  have bt:w.1.size<X1.1.size:=aS
  have bm:i.tb<w.1.size:=ud a3 i.tb (.inr (.inr (.inr (.inl rfl))))
  have N:∀k,X7 i k->k<X1.1.size:=fun k C=>by have:=ud a3 k C;omega
  have am:∀k,(fun k=>k=i.tb) k->k<w.1.size+1/\¬ZE i.s i.tv i.lb i.gb k:=fun k e=>⟨by omega,fun y=>ak.parts k y (.inr (.inl e))⟩
  have b3:=ze (ud aI (fun k=>k=i.tb) (fun k e=>⟨by have:=(am k e).1;have:=ud QZ;show k<X.1.size;omega,(am k e).2⟩))
  have aY:=ze ak
  have aE:=ze aN
  have ay:=ze a1
  have aW:=ze N
  clear ak aN a1 am N aI p1 d8 d9 p0 c8 c9 b7
  refine(wpIn_wide (n:=7)).1 ?_
  refine yk (F:=Fence.wide) (n:=7) rfl (by omega) (gf:=194) (lb:=#[(O Bl),(O Bh)]) rfl trivial Vo (ud b3 (X1.1.size+2) (by omega)) (E _) (fun h k=>h.trans k) (fun W o o' h hc hw=>KX.putObj o' (by omega) (by omega) h hw) (J _ _) (fun _=>rfl)
   (fun b W=>qk dn W i c ep {m with TL:=(b.map (fun x:RSg c=>x.1)).foldl (yr m.now) m.TL}/\KX (fun k=>k=i.tb) X1.1.size (X1.1.size+2) X1 W)
   (fun _ _ _=>False)
   (fun s A B row y u Y=>⟨y.1.kept (f:=fun k=>X1.1.size<=k) ⟨u.os,u.tape,u.output,u.size,fun k C hn=>u.block k C (fun e=>hn (Y k e.symm).1)⟩ (fun k C e=>by have:=ud aW k C;omega),KX.own (β:=Unit) (q:=X1.1.size) (E _) () A B row y.2 u Y⟩)
   (fun _ _ _ _ _ y _ _=>y)
   ⟨aY,KX.refl _ _ _ _⟩
   (fun x a' W=>∃T,X1.1.size<=T/\W.1[T]?=some (.cells #[I x.1.t,I x.1.se,I x.1.we] 146 (0,0))/\a'={tmps:=#[(O i.x),(O w.1.size),(O T),u_,(O i.x),(O i.x),.pointer (some (U i.x 9)),(O i.s),(O i.x),(O i.x),.pointer (some (U i.x 8)),I m.now,.func (.func 194) #[] #[(O Bl),(O Bh)],.agg #[I x.1.t,I x.1.se,I x.1.we],u_,u_,u_,u_,u_,u_,u_,u_,u_,u_,u_,u_,u_,u_,u_,u_,u_,u_,u_,u_,u_,u_,u_,u_,u_,u_,u_,u_,u_,u_,u_,u_,u_,u_],defers:=[]})
   (fun x a' s A B row y u Y=>by
    obtain⟨T,h1,h2,h3⟩:=y;exact⟨T,h1,zH h2 u (fun r e=>(Y r e).2),h3⟩) ?assign ?body ?done ?stop
  case assign=>
   rintro l b x W K ⟨i1,i2⟩ hK;have HK:=ze hK;have av:=i2.kept.size;clear hK;gi_wp2;have a:=(J W.1.size W).alloc (E _) (.cells #[I x.1.t,I x.1.se,I x.1.we] 146);exact ud HK _ _ (zu a) (KX.of_below a) ⟨i1.later a,i2.trans (KX.of_below a)⟩ ⟨W.1.size,av,zo _ _,rfl⟩
  case body=>
   rintro l b x a' W hl ⟨r,Y⟩ ⟨i1,i2⟩ ⟨T,b8,hx,rfl⟩ be;have av:=i2.kept.size;have v:=qB i2 aE (by omega) (by omega);obtain⟨-,-,-,-,-,-,-,-,m8,-,bi⟩:=i1.cells;obtain⟨mp,-⟩:=zc v;obtain⟨k0,k1,k2,-⟩:=zc hx;have a8:=i1.lt;have a7:=zd v;have b9:=zd hx;dsimp only at m8;have a0:=ze i1;have a4:=ze i2;have a2:=x.2.1;have z:((b.map (fun x:RSg c=>x.1)).foldl (yr m.now) m.TL).length<=100000:=by
    have:=QX m.now (b.map (fun x:RSg c=>x.1)) m.TL;rw[List.length_map]at this;omega
   have ai:=ze (zjp (a0.later (J _ _).drew).board x.1 a2 m.now z);have ao:Tryz.prog.follows .mixedOrders=true:=(by kernel_rfl);clear i1 i2 hx v Y z a2;gi_wp2;refine Xm 11 ao (by kernel_rfl) ?_;simp only[List.take_succ_cons,List.take_zero,List.drop_succ_cons,List.drop_zero];repeat still_step
   refine wpStill_nil ?_;gi_wp2_with (first|(refine⟨trivial,?_⟩;gi_at_call 113;refine(CallsIn.inRound l (callsIn_wide.2 ai)).mono ?_;rintro e V ⟨rfl,hB,hK⟩;have HB:=ze hB;have ah:=ze hK;clear hB hK)|gi_in);have d:zj (fun k=>k=i.tb) W V:=(zj.refl (fun k=>k=i.tb) W).drew.trans ah (fun _ _ e=>e);have an:=a0.putBoard HB (d.mono (fun k _ e=> .inr (.inl e)));refine⟨Xy d (by omega),ZN d (by omega),?_,a4.trans (ZN d (by omega))⟩;rw[List.map_append,List.foldl_append];exact an
  case done=>
   rintro D xs W hD ⟨ps,hp,a9⟩ ⟨i1,i2⟩ aM;have b6:=ze a9;have ab:((xs.map (fun x:RSg c=>x.1)).foldl (yr m.now) m.TL).length<=52000:=by
    have:=QX m.now (xs.map (fun x:RSg c=>x.1)) m.TL;rw[List.length_map,a9]at this;have h2:=yK (fun x=>jd c Bs m.L m.now x.1) (ps.map (fun p:Sg×SV=>zgC c p.1));rw[List.length_map,hp.length_eq]at h2;rw[a9];omega
   have b4:=ze ab;clear a9 ab;have a0:=ze i1;have a4:=ze i2;have aC:=ze aM;have b0:=ze hp;clear i1 i2 aM hp;gi_wp2;have i1:=ud a0;have i2:=ud a4;have av:=i2.kept.size;have v:=qB i2 aE (by omega) (by omega);obtain⟨-,-,-,-,-,-,-,-,m8,m9,-⟩:=i1.cells;dsimp only at m8;obtain⟨mp,-⟩:=zc v;have a8:=i1.lt;have a7:=zd v;have az:=ze (vS i1.set hc hL m.now R);have aA:=ze (vS (i1.later (J _ _).drew).set hc hL m.now R);have b1:=ze v;clear i1 i2 v;generalize aP:(xs.map (fun x:RSg c=>x.1)).foldl (yr m.now) m.TL=T1 at*;have b5:=ze aP;clear aP;go_wp2_with fail;go_region_held3 (fun w'=>w'.cell? (U w.1.size 0)=some (O i.x)/\w'.cell? (U i.x 8)=some (I m.now)/\w'.cell? (U i.x 9)=some (O i.s)) (go_keep) (first
    |(go_at_call 114;(first|(with_reducible refine(ud az).mono ?_)|(with_reducible refine(ud aA).mono ?_));rintro e X2 ⟨ax,aw,rfl,j,ad⟩;have M:B_ W X2:=⟨j.os,j.tape,j.output,j.size,j.block⟩;have p2:=(M.cell (p:=(U w.1.size 0)) a7).trans mp;have n8:=(M.cell (p:=(U i.x 8)) a8).trans m8;have n9:=(M.cell (p:=(U i.x 9)) a8).trans m9;have bl:=Q a7 M.size;have bo:=Q a8 M.size;have Z:=ze M;have aa:=ze ad;clear j M ad az aA))
   all_goals go_wp2_with fail
   all_goals
    have bx:=Z.size
    have al:=a0.later Z
    have aO:=(Z.block _ a7).trans b1
    have P:∀k,X7 i k->k<X2.1.size:=fun k C=>by have:=ud a3 k C;omega
    have ac:∀k,(fun k=>k=i.tb) k->k<W.1.size/\¬ZE i.s i.tv i.lb i.gb k:=fun k e=>⟨by omega,fun y=>al.parts k y (.inr (.inl e))⟩
    have aH:=ze (ud aa (fun k=>k=i.tb) ac)
    have bb:=zd aC
    have aV:=ze ((Z.block _ bb).trans aC)
    have bk:D≠i.tb:=by omega
    have aZ:=ze al
    have b2:=ze aO
    have aB:=ze P
    clear al aO ac P aa p2 n8 n9 mp m8 m9
    refine(wpIn_wide (n:=7)).1 ?_
    refine yk (F:=Fence.wide) (n:=7) rfl (by omega) (gf:=194) (lb:=#[(O ax),(O aw)]) rfl trivial Vo (ud aH (X2.1.size+2) (by omega)) (E _) (fun h k=>h.trans k) (fun W o o' h hc hw=>KX.putObj o' (by omega) (by omega) h hw) (J _ _) (fun _=>rfl)
     (fun b V=>qk dn V i c ep {m with TL:=(b.map (fun x:RSg c=>x.1)).foldl (yV m.now) T1}/\KX (fun k=>k=i.tb) X2.1.size (X2.1.size+2) X2 V)
     (fun _ _ _=>False)
     (fun s A B row y u Y=>⟨y.1.kept (f:=fun k=>X2.1.size<=k) ⟨u.os,u.tape,u.output,u.size,fun k C hn=>u.block k C (fun e=>hn (Y k e.symm).1)⟩ (fun k C e=>by have:=ud aB k C;omega),KX.own (β:=Unit) (q:=X2.1.size) (E _) () A B row y.2 u Y⟩)
     (fun _ _ _ _ _ y _ _=>y)
     ⟨aZ,KX.refl _ _ _ _⟩
     (fun x a' V=>∃T,X2.1.size<=T/\V.1[T]?=some (.cells #[I x.1.t,I x.1.se,I x.1.we] 146 (0,0))/\a'={tmps:=#[(O i.x),(O w.1.size),u_,(O T),(O i.x),(O i.x),.pointer (some (U i.x 9)),(O i.s),(O i.x),(O i.x),.pointer (some (U i.x 8)),I m.now,.func (.func 194) #[] #[(O Bl),(O Bh)],u_,u_,u_,u_,u_,u_,u_,u_,u_,u_,u_,u_,u_,(O i.x),(O i.x),.pointer (some (U i.x 9)),(O i.s),(O i.x),(O i.x),.pointer (some (U i.x 8)),I m.now,.func (.func 194) #[] #[(O ax),(O aw)],.agg #[I x.1.t,I x.1.se,I x.1.we],u_,u_,u_,u_,u_,u_,u_,u_,u_,u_,u_,u_],defers:=[]})
     (fun x a' s A B row y u Y=>by
      obtain⟨T,h1,h2,h3⟩:=y;exact⟨T,h1,zH h2 u (fun r e=>(Y r e).2),h3⟩) ?assign2 ?body2 ?done2 ?stop2
    case assign2=>
     rintro l b x V K ⟨j1,S⟩ hK;have HK:=ze hK;have au:=S.kept.size;clear hK;gi_wp2;have a:=(J V.1.size V).alloc (E _) (.cells #[I x.1.t,I x.1.se,I x.1.we] 146);exact ud HK _ _ (zu a) (KX.of_below a) ⟨j1.later a,S.trans (KX.of_below a)⟩ ⟨V.1.size,au,zo _ _,rfl⟩
    case body2=>
     rintro l b x a' V hl ⟨r,Y⟩ ⟨j1,S⟩ ⟨T,b8,hx,rfl⟩ be;have au:=S.kept.size;have ap:=qB S b2 (by omega) (by omega);obtain⟨-,-,-,-,-,-,-,-,m8,-,bi⟩:=j1.cells;obtain⟨mp,-⟩:=zc ap;obtain⟨k0,k1,k2,-⟩:=zc hx;have bu:=j1.lt;have br:=zd ap;have b9:=zd hx;dsimp only at m8;have a5:=ze j1;have ag:=ze S;have a2:=x.2.1;have z:((b.map (fun x:RSg c=>x.1)).foldl (yV m.now) T1).length<=100000:=by
      have:=Jl m.now (b.map (fun x:RSg c=>x.1)) T1;have h9:=ud b4;rw[List.length_map]at this;omega
     have ai:=ze (zbX (a5.later (J _ _).drew).board x.1 a2 m.now z);have ao:Tryz.prog.follows .mixedOrders=true:=(by kernel_rfl);clear j1 S hx ap Y z a2;gi_wp2;refine Xm 11 ao (by kernel_rfl) ?_;simp only[List.take_succ_cons,List.take_zero,List.drop_succ_cons,List.drop_zero];repeat still_step
     refine wpStill_nil ?_;gi_wp2_with (first|(refine⟨trivial,?_⟩;gi_at_call 113;refine(CallsIn.inRound l (callsIn_wide.2 ai)).mono ?_;rintro e U9 ⟨rfl,hB,hK⟩;have HB:=ze hB;have ah:=ze hK;clear hB hK)|gi_in);have d:zj (fun k=>k=i.tb) V U9:=(zj.refl (fun k=>k=i.tb) V).drew.trans ah (fun _ _ e=>e);have an:=a5.putBoard HB (d.mono (fun k _ e=> .inr (.inl e)));refine⟨Xy d (by omega),ZN d (by omega),?_,ag.trans (ZN d (by omega))⟩;rw[List.map_append,List.foldl_append];exact an
    case done2=>
     rintro D2 ys V bq ⟨bj,aR,rfl⟩ ⟨j1,S⟩ aL;have a5:=ze j1;have ag:=ze S;have aX:=ze aL;have aD:=ze aR;clear j1 S aL aR;gi_wp2;have j1:=ud a5;have S:=ud ag;have au:=S.kept.size;have ba:=qB S aV (by omega) (by omega);have bf:D≠D2:=(by omega);have aK:=(World.putObj_heap_other (o:=.deferred none) (w:=V) bf).trans ba;refine⟨by simp,.inl ⟨_,_,rfl,run_takeDeferred (ud aX),⟨by simp,.inl ⟨_,_,rfl,run_takeDeferred aK,?_⟩⟩⟩⟩;have kp:zj (fun k=>k=D2\/k=D) V ((V.putObj D2 (.deferred none)).putObj D (.deferred none)):=
      ((zj.refl (fun k=>k=D2\/k=D) V).grown (grownBy_putObj' V D2 (.deferred none)) (fun k e _=>by cases e;exact .inl rfl)).grown (grownBy_putObj' _ D (.deferred none)) (fun k e _=>by cases e;exact .inr rfl)
     have bd:=(zj.of_below (f:=fun k=>k=i.tb) ay).trans a4.kept (fun k C e=>e.elim id (by omega));have d:=(bd.trans (zj.of_below (f:=fun k=>k=i.tb) Z) (fun _ _ e=>e)).trans S.kept (fun k C e=>e.elim id (by omega));have bc:=d.trans kp (fun k C e=>by omega);refine⟨_,results_none rfl _ _ _,rfl,_,j1.kept kp (fun k C e=>by have:=ud a3 k C;omega),bc,⟨Bs,xs.map (fun x:RSg c=>x.1),(((bj.map (fun p:Sg×SV=>zgC c p.1)).filter (fun x=>ja c m.L m.now x.1)).map (fun x:RSg c=>x.1)),ud aU,fun s=>?_,fun s=>zes hL (ud aD) (fun s=>ja c m.L m.now s) s,by rw[ud b5]⟩⟩
     ·rw[ud b6];exact zes hL b0 (fun s=>jd c Bs m.L m.now s) s
    case stop2=>
     rintro D c b W _ _ h _;exact h.elim
  case stop=>
   rintro D c b W _ _ h _;exact h.elim
