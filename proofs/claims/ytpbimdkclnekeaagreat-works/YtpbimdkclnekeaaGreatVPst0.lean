import Derived.Test.YtpbimdkclnekeaaGreatVRefR
open Option renaming none → I
open Option renaming some → J
open Go.RowKit.Below renaming refl → O
open Nat renaming le_refl → E
open Nat renaming lt_of_lt_of_le → Q
open Go.Value (int)
open Go.IntKind (i64)
set_option linter.unusedVariables false
set_option maxRecDepth 100000
set_option maxHeartbeats 8000000
namespace Go.Proofs.YtpbimdkclnekeaaGreat
open Go.RowKit Go.Maps Go.Shelf
open Go.ChangeMaps (setBlock)
attribute [local go_sem] Oper.semAt_some
theorem zfY(now:Int)(TL:List (Jk×Tsk))(s:Sg):(qW now TL s).length<=TL.length+1:=by
 unfold qW;split
 ·omega
 ·rw[kY];split<;>omega
theorem zfX(now:Int)(TL:List (Jk×Tsk))(s:Sg):(yF now TL s).length<=TL.length+1:=by
 unfold yF;split
 ·omega
 ·rw[kY];split<;>omega
theorem XQ(now:Int):∀(l:List Sg) (TL:List (Jk×Tsk)),(l.foldl (qW now) TL).length<=TL.length+l.length
 |[],TL=>by simp
 |s::l,TL=>by have a:=XQ now l (qW now TL s);have b:=zfY now TL s;simp only[List.foldl_cons,List.length_cons];omega
theorem KD(now:Int):∀(l:List Sg) (TL:List (Jk×Tsk)),(l.foldl (yF now) TL).length<=TL.length+l.length
 |[],TL=>by simp
 |s::l,TL=>by have a:=KD now l (yF now TL s);have b:=zfX now TL s;simp only[List.foldl_cons,List.length_cons];omega
theorem zbM{c:Cf}{L ps:LV}(e:∀p∈L,inR c p.1)(h:ps.Perm L)(f:Sg->Bool)(s:Sg):s∈(((ps.map (fun p:Sg×SV=>zdE c p.1)).filter (fun x=>f x.1)).map (fun x:RSg c=>x.1))↔s∈zx L/\f s=true:=by
 constructor
 ·intro j
  obtain⟨q,i,rfl⟩:=List.mem_map.1 j
  obtain⟨d,b⟩:=List.mem_filter.1 i
  obtain⟨p,g,rfl⟩:=List.mem_map.1 d
  have a:=h.mem_iff.1 g
  rw[kG (e p a)]at b ⊢
  exact⟨List.mem_map.2 ⟨p,a,rfl⟩,b⟩
 ·rintro⟨d,b⟩
  obtain⟨p,a,rfl⟩:=List.mem_map.1 (show s∈L.map (·.1)from d)
  refine List.mem_map.2 ⟨zdE c p.1,List.mem_filter.2 ⟨List.mem_map.2 ⟨p,h.mem_iff.2 a,rfl⟩,?_⟩,kG (e p a)⟩
  rw[kG (e p a)];exact b
theorem Vv{w:World}{i:Ids}{c:Cf}{ep:Int}{m:MS}(h:zy w i c ep m)(hc:c.ok)(hL:∀p∈m.L,inR c p.1)(aR:m.L.length<=2000)(R:0<=m.now/\m.now<=100000)(bt:m.TL.length<=50000):
  Calls Tryz.prog 44 #[.pointer (J ⟨i.x,0,I⟩)] w fun e w'=>e=.returned (.tuple #[])/\∃aJ,zy w' i c ep {m with TL:=aJ}/\zk (fun k=>k=i.tb) w w'/\qU c m aJ:=by
 have bw:=h.lt
 have a:Below w.1.size w (w.alloc (.cells #[.pointer (J ⟨i.x,0,I⟩)] 38)):=(O _ _).alloc (E _) _
 have q0:=zo w (.cells #[.pointer (J ⟨i.x,0,I⟩)] 38)
 have qz:=zF w (.cells #[.pointer (J ⟨i.x,0,I⟩)] 38)
 obtain⟨-,-,-,-,-,-,-,-,c8,c9,b8⟩:=(h.later a).cells
 obtain⟨p0,-⟩:=zc q0
 have ar:=(h.later a).lt
 have aq:=zd q0
 have aj:=fun W hW=>ze (JW ((h.later (w':=W) hW).set) hc hL aR m.now R)
 have bq:=fun W hW=>ze (vh ((h.later (w':=W) hW).set) hc hL m.now R)
 have H:=ze h
 have Q0:=ze q0
 have QZ:=ze qz
 have af:=ze a
 clear h q0 qz a
 refine(callsIn_wide (n:=7)).1 ?_
 refine callsIn_of_wp_marks Tryz.func44 rfl trivial ?_ rfl
 simp only[Tryz.ntmps44,List.size_toArray,List.length_cons,List.length_nil,Nat.reduceAdd,Nat.reduceSub,Array.replicate_succ,Array.replicate_zero,List.push_toArray,List.append_toArray,List.nil_append,List.cons_append]
 refine wpIn_wide.2 ?_
 go_wp2_with fail
 generalize(w.alloc (.cells #[.pointer (J ⟨i.x,0,I⟩)] 38))=X at*
 have a6:=ud af
 have bh:X.1.size=w.1.size+1:=ud QZ
 have bi:=a6.size
 have aF:=aj X a6
 have aG:=aj X.drew a6.drew
 have a3:=ze ((ud H).foot_lt)
 clear aj a6 bi bh
 go_region_held3 (fun w'=>w'.cell? ⟨w.1.size,0,I⟩=J (.pointer (J ⟨i.x,0,I⟩))/\w'.cell? ⟨i.x,8,I⟩=J (int i64 m.now)/\w'.cell? ⟨i.x,9,I⟩=J (.pointer (J ⟨i.s,0,I⟩))) (go_keep) (first
  |(go_at_call 94;(first|(with_reducible refine(ud aF).mono ?_)|(with_reducible refine(ud aG).mono ?_));rintro e X1 ⟨Bl,Bh,Bs,rfl,g,aK,aU⟩;have G:Below X.1.size X X1:=⟨g.os,g.tape,g.output,g.size,g.block⟩;have p1:=(G.cell (p:=⟨w.1.size,0,I⟩) aq).trans p0;have d8:=(G.cell (p:=⟨i.x,8,I⟩) ar).trans c8;have d9:=(G.cell (p:=⟨i.x,9,I⟩) ar).trans c9;have aT:=Q aq G.size;have bo:=Q ar G.size;have ae:=ze G;have aV:=ze aK;have aI:=ze aU;clear g G aK aU aF aG))
 all_goals go_wp2_with fail
 all_goals
  have bx:=(ud ae).size
  have a1:Below w.1.size w X1:=(ud af).trans ((ud ae).mono (ud af).size)
  have ak:=(ud H).later a1
  have aO:=((ud ae).block _ aq).trans (ud Q0)
  have bu:w.1.size<X1.1.size:=aT
  have bn:i.tb<w.1.size:=ud a3 i.tb (.inr (.inr (.inr (.inl rfl))))
  have N:∀k,zU i k->k<X1.1.size:=fun k C=>by have:=ud a3 k C;omega
  have am:∀k,(fun k=>k=i.tb) k->k<w.1.size+1/\¬ZI i.s i.tv i.lb i.gb k:=fun k e=>⟨by omega,fun y=>ak.parts k y (.inr (.inl e))⟩
  have b4:=ze (ud aI (fun k=>k=i.tb) (fun k e=>⟨by have:=(am k e).1;have:=ud QZ;show k<X.1.size;omega,(am k e).2⟩))
  have aZ:=ze ak
  have aE:=ze aO
  have ay:=ze a1
  have aX:=ze N
  clear ak aO a1 am N aI p1 d8 d9 p0 c8 c9 b8
  refine(wpIn_wide (n:=7)).1 ?_
  refine yG (F:=Fence.wide) (n:=7) rfl (by omega) (gf:=191) (lb:=#[.pointer (J ⟨Bl,0,I⟩),.pointer (J ⟨Bh,0,I⟩)]) rfl trivial VV (ud b4 (X1.1.size+2) (by omega)) (E _) (fun h k=>h.trans k) (fun W o o' h hc hw=>KX.putObj o' (by omega) (by omega) h hw) (O _ _) (fun _=>rfl)
   (fun b W=>zy W i c ep {m with TL:=(b.map (fun x:RSg c=>x.1)).foldl (qW m.now) m.TL}/\KX (fun k=>k=i.tb) X1.1.size (X1.1.size+2) X1 W)
   (fun _ _ _=>False)
   (fun s A B row y u Y=>⟨y.1.kept (f:=fun k=>X1.1.size<=k) ⟨u.os,u.tape,u.output,u.size,fun k C hn=>u.block k C (fun e=>hn (Y k e.symm).1)⟩ (fun k C e=>by have:=ud aX k C;omega),KX.own (β:=Unit) (q:=X1.1.size) (E _) () A B row y.2 u Y⟩)
   (fun _ _ _ _ _ y _ _=>y)
   ⟨ud aZ,KX.refl _ _ _ _⟩
   (fun x a' W=>∃T,X1.1.size<=T/\W.1[T]?=J (.cells #[int i64 x.1.t,int i64 x.1.se,int i64 x.1.we] 137 (0,0))/\a'={tmps:=#[.pointer (J ⟨i.x,0,I⟩),.pointer (J ⟨w.1.size,0,I⟩),.pointer (J ⟨T,0,I⟩),undef,.pointer (J ⟨i.x,0,I⟩),.pointer (J ⟨i.x,0,I⟩),.pointer (J ⟨i.x,9,I⟩),.pointer (J ⟨i.s,0,I⟩),.pointer (J ⟨i.x,0,I⟩),.pointer (J ⟨i.x,0,I⟩),.pointer (J ⟨i.x,8,I⟩),int i64 m.now,.func (.func 191) #[] #[.pointer (J ⟨Bl,0,I⟩),.pointer (J ⟨Bh,0,I⟩)],.agg #[int i64 x.1.t,int i64 x.1.se,int i64 x.1.we],undef,undef,undef,undef,undef,undef,undef,undef,undef,undef,undef,undef,undef,undef,undef,undef,undef,undef,undef,undef,undef,undef,undef,undef,undef,undef,undef,undef,undef,undef,undef,undef,undef,undef],defers:=[]})
   (fun x a' s A B row y u Y=>by
    obtain⟨T,h1,h2,h3⟩:=y
    exact⟨T,h1,zG h2 u (fun r e=>(Y r e).2),h3⟩) ?assign ?body ?done ?stop
  case assign=>
   rintro l b x W K ⟨i1,i2⟩ hK
   have HK:=ze hK
   have av:=i2.kept.size
   clear hK
   gi_wp2
   have a:=(O W.1.size W).alloc (E _) (.cells #[int i64 x.1.t,int i64 x.1.se,int i64 x.1.we] 137)
   exact ud HK _ _ (zu a) (KX.of_below a) ⟨i1.later a,i2.trans (KX.of_below a)⟩ ⟨W.1.size,av,zo _ _,rfl⟩
  case body=>
   rintro l b x a' W hl ⟨r,Y⟩ ⟨i1,i2⟩ ⟨T,b9,hx,rfl⟩ bf
   have av:=i2.kept.size
   have v:=qc i2 (ud aE) (by omega) (by omega)
   obtain⟨-,-,-,-,-,-,-,-,m8,-,bj⟩:=i1.cells
   obtain⟨mp,-⟩:=zc v
   obtain⟨k0,k1,k2,-⟩:=zc hx
   have a8:=i1.lt
   have a7:=zd v
   have ba:=zd hx
   dsimp only at m8
   have a0:=ze i1
   have a4:=ze i2
   have a2:=x.2.1
   have z:((b.map (fun x:RSg c=>x.1)).foldl (qW m.now) m.TL).length<=100000:=by
    have:=XQ m.now (b.map (fun x:RSg c=>x.1)) m.TL
    rw[List.length_map]at this;omega
   have ai:=ze (zfZ ((ud a0).later (O _ _).drew).board x.1 a2 m.now z)
   have ao:Tryz.prog.follows .mixedOrders=true:=by kernel_rfl
   clear i1 i2 hx v Y z a2
   gi_wp2
   refine Zq 11 ao (by kernel_rfl) ?_
   simp only[List.take_succ_cons,List.take_zero,List.drop_succ_cons,List.drop_zero]
   repeat still_step
   refine wpStill_nil ?_
   gi_wp2_with (first|(refine⟨trivial,?_⟩;gi_at_call 95;refine(CallsIn.inRound l (callsIn_wide.2 (ud ai))).mono ?_;rintro e V ⟨rfl,hB,hK⟩;have HB:=ze hB;have ah:=ze hK;clear hB hK)|gi_in)
   have d:zk (fun k=>k=i.tb) W V:=(zk.refl (fun k=>k=i.tb) W).drew.trans (ud ah) (fun _ _ e=>e)
   have an:=(ud a0).putBoard (ud HB) (d.mono (fun k _ e=> .inr (.inl e)))
   refine⟨ZC d (by omega),jY d (by omega),?_,(ud a4).trans (jY d (by omega))⟩
   rw[List.map_append,List.foldl_append]
   exact an
  case done=>
   rintro D xs W hD ⟨ps,hp,a9⟩ ⟨i1,i2⟩ aN
   have b7:=ze a9
   have ab:((xs.map (fun x:RSg c=>x.1)).foldl (qW m.now) m.TL).length<=52000:=by
    have:=XQ m.now (xs.map (fun x:RSg c=>x.1)) m.TL
    rw[List.length_map,a9]at this
    have h2:=ym (fun x=>vq c Bs m.L m.now x.1) (ps.map (fun p:Sg×SV=>zdE c p.1))
    rw[List.length_map,hp.length_eq]at h2
    rw[a9];omega
   have b5:=ze ab
   clear a9 ab
   have a0:=ze i1
   have a4:=ze i2
   have aC:=ze aN
   have b1:=ze hp
   clear i1 i2 aN hp
   gi_wp2
   have i1:=ud a0
   have i2:=ud a4
   have av:=i2.kept.size
   have v:=qc i2 (ud aE) (by omega) (by omega)
   obtain⟨-,-,-,-,-,-,-,-,m8,m9,-⟩:=i1.cells
   dsimp only at m8
   obtain⟨mp,-⟩:=zc v
   have a8:=i1.lt
   have a7:=zd v
   have az:=ze (vh i1.set hc hL m.now R)
   have aA:=ze (vh (i1.later (O _ _).drew).set hc hL m.now R)
   have b2:=ze v
   clear i1 i2 v
   generalize aQ:(xs.map (fun x:RSg c=>x.1)).foldl (qW m.now) m.TL=T1 at*
   have b6:=ze aQ
   clear aQ
   go_wp2_with fail
   go_region_held3 (fun w'=>w'.cell? ⟨w.1.size,0,I⟩=J (.pointer (J ⟨i.x,0,I⟩))/\w'.cell? ⟨i.x,8,I⟩=J (int i64 m.now)/\w'.cell? ⟨i.x,9,I⟩=J (.pointer (J ⟨i.s,0,I⟩))) (go_keep) (first
    |(go_at_call 96;(first|(with_reducible refine(ud az).mono ?_)|(with_reducible refine(ud aA).mono ?_));rintro e X2 ⟨ax,aw,rfl,j,ad⟩;have M:Below W.1.size W X2:=⟨j.os,j.tape,j.output,j.size,j.block⟩;have p2:=(M.cell (p:=⟨w.1.size,0,I⟩) a7).trans mp;have n8:=(M.cell (p:=⟨i.x,8,I⟩) a8).trans m8;have n9:=(M.cell (p:=⟨i.x,9,I⟩) a8).trans m9;have bm:=Q a7 M.size;have bp:=Q a8 M.size;have Z:=ze M;have aa:=ze ad;clear j M ad az aA))
   all_goals go_wp2_with fail
   all_goals
    have bz:=(ud Z).size
    have al:=(ud a0).later (ud Z)
    have aP:=((ud Z).block _ a7).trans (ud b2)
    have P:∀k,zU i k->k<X2.1.size:=fun k C=>by have:=ud a3 k C;omega
    have ac:∀k,(fun k=>k=i.tb) k->k<W.1.size/\¬ZI i.s i.tv i.lb i.gb k:=fun k e=>⟨by omega,fun y=>al.parts k y (.inr (.inl e))⟩
    have aH:=ze (ud aa (fun k=>k=i.tb) ac)
    have bc:=zd (ud aC)
    have aW:=ze (((ud Z).block _ bc).trans (ud aC))
    have bl:D≠i.tb:=by omega
    have b0:=ze al
    have b3:=ze aP
    have aB:=ze P
    clear al aP ac P aa p2 n8 n9 mp m8 m9
    refine(wpIn_wide (n:=7)).1 ?_
    refine yG (F:=Fence.wide) (n:=7) rfl (by omega) (gf:=191) (lb:=#[.pointer (J ⟨ax,0,I⟩),.pointer (J ⟨aw,0,I⟩)]) rfl trivial VV (ud aH (X2.1.size+2) (by omega)) (E _) (fun h k=>h.trans k) (fun W o o' h hc hw=>KX.putObj o' (by omega) (by omega) h hw) (O _ _) (fun _=>rfl)
     (fun b V=>zy V i c ep {m with TL:=(b.map (fun x:RSg c=>x.1)).foldl (yF m.now) T1}/\KX (fun k=>k=i.tb) X2.1.size (X2.1.size+2) X2 V)
     (fun _ _ _=>False)
     (fun s A B row y u Y=>⟨y.1.kept (f:=fun k=>X2.1.size<=k) ⟨u.os,u.tape,u.output,u.size,fun k C hn=>u.block k C (fun e=>hn (Y k e.symm).1)⟩ (fun k C e=>by have:=ud aB k C;omega),KX.own (β:=Unit) (q:=X2.1.size) (E _) () A B row y.2 u Y⟩)
     (fun _ _ _ _ _ y _ _=>y)
     ⟨ud b0,KX.refl _ _ _ _⟩
     (fun x a' V=>∃T,X2.1.size<=T/\V.1[T]?=J (.cells #[int i64 x.1.t,int i64 x.1.se,int i64 x.1.we] 137 (0,0))/\a'={tmps:=#[.pointer (J ⟨i.x,0,I⟩),.pointer (J ⟨w.1.size,0,I⟩),undef,.pointer (J ⟨T,0,I⟩),.pointer (J ⟨i.x,0,I⟩),.pointer (J ⟨i.x,0,I⟩),.pointer (J ⟨i.x,9,I⟩),.pointer (J ⟨i.s,0,I⟩),.pointer (J ⟨i.x,0,I⟩),.pointer (J ⟨i.x,0,I⟩),.pointer (J ⟨i.x,8,I⟩),int i64 m.now,.func (.func 191) #[] #[.pointer (J ⟨Bl,0,I⟩),.pointer (J ⟨Bh,0,I⟩)],undef,undef,undef,undef,undef,undef,undef,undef,undef,undef,undef,undef,undef,.pointer (J ⟨i.x,0,I⟩),.pointer (J ⟨i.x,0,I⟩),.pointer (J ⟨i.x,9,I⟩),.pointer (J ⟨i.s,0,I⟩),.pointer (J ⟨i.x,0,I⟩),.pointer (J ⟨i.x,0,I⟩),.pointer (J ⟨i.x,8,I⟩),int i64 m.now,.func (.func 191) #[] #[.pointer (J ⟨ax,0,I⟩),.pointer (J ⟨aw,0,I⟩)],.agg #[int i64 x.1.t,int i64 x.1.se,int i64 x.1.we],undef,undef,undef,undef,undef,undef,undef,undef,undef,undef,undef,undef],defers:=[]})
     (fun x a' s A B row y u Y=>by
      obtain⟨T,h1,h2,h3⟩:=y
      exact⟨T,h1,zG h2 u (fun r e=>(Y r e).2),h3⟩) ?assign2 ?body2 ?done2 ?stop2
    case assign2=>
     rintro l b x V K ⟨j1,S⟩ hK
     have HK:=ze hK
     have au:=S.kept.size
     clear hK
     gi_wp2
     have a:=(O V.1.size V).alloc (E _) (.cells #[int i64 x.1.t,int i64 x.1.se,int i64 x.1.we] 137)
     exact ud HK _ _ (zu a) (KX.of_below a) ⟨j1.later a,S.trans (KX.of_below a)⟩ ⟨V.1.size,au,zo _ _,rfl⟩
    case body2=>
     rintro l b x a' V hl ⟨r,Y⟩ ⟨j1,S⟩ ⟨T,b9,hx,rfl⟩ bf
     have au:=S.kept.size
     have ap:=qc S (ud b3) (by omega) (by omega)
     obtain⟨-,-,-,-,-,-,-,-,m8,-,bj⟩:=j1.cells
     obtain⟨mp,-⟩:=zc ap
     obtain⟨k0,k1,k2,-⟩:=zc hx
     have bv:=j1.lt
     have bs:=zd ap
     have ba:=zd hx
     dsimp only at m8
     have a5:=ze j1
     have ag:=ze S
     have a2:=x.2.1
     have z:((b.map (fun x:RSg c=>x.1)).foldl (yF m.now) T1).length<=100000:=by
      have:=KD m.now (b.map (fun x:RSg c=>x.1)) T1
      have h9:=ud b5
      rw[List.length_map]at this;omega
     have ai:=ze (JO ((ud a5).later (O _ _).drew).board x.1 a2 m.now z)
     have ao:Tryz.prog.follows .mixedOrders=true:=by kernel_rfl
     clear j1 S hx ap Y z a2
     gi_wp2
     refine Zq 11 ao (by kernel_rfl) ?_
     simp only[List.take_succ_cons,List.take_zero,List.drop_succ_cons,List.drop_zero]
     repeat still_step
     refine wpStill_nil ?_
     gi_wp2_with (first|(refine⟨trivial,?_⟩;gi_at_call 95;refine(CallsIn.inRound l (callsIn_wide.2 (ud ai))).mono ?_;rintro e U ⟨rfl,hB,hK⟩;have HB:=ze hB;have ah:=ze hK;clear hB hK)|gi_in)
     have d:zk (fun k=>k=i.tb) V U:=(zk.refl (fun k=>k=i.tb) V).drew.trans (ud ah) (fun _ _ e=>e)
     have an:=(ud a5).putBoard (ud HB) (d.mono (fun k _ e=> .inr (.inl e)))
     refine⟨ZC d (by omega),jY d (by omega),?_,(ud ag).trans (jY d (by omega))⟩
     rw[List.map_append,List.foldl_append]
     exact an
    case done2=>
     rintro D2 ys V br ⟨bk,aS,rfl⟩ ⟨j1,S⟩ aM
     have a5:=ze j1
     have ag:=ze S
     have aY:=ze aM
     have aD:=ze aS
     clear j1 S aM aS
     gi_wp2
     have j1:=ud a5
     have S:=ud ag
     have au:=S.kept.size
     have bb:=qc S (ud aW) (by omega) (by omega)
     have bg:D≠D2:=by omega
     have aL:=(World.putObj_heap_other (o:=.deferred I) (w:=V) bg).trans bb
     refine⟨by simp,.inl ⟨_,_,rfl,run_takeDeferred (ud aY),⟨by simp,.inl ⟨_,_,rfl,run_takeDeferred aL,?_⟩⟩⟩⟩
     have kp:zk (fun k=>k=D2\/k=D) V ((V.putObj D2 (.deferred I)).putObj D (.deferred I)):=
      ((zk.refl (fun k=>k=D2\/k=D) V).grown (grownBy_putObj' V D2 (.deferred I)) (fun k e _=>by cases e;exact .inl rfl)).grown (grownBy_putObj' _ D (.deferred I)) (fun k e _=>by cases e;exact .inr rfl)
     have be:=(zk.of_below (f:=fun k=>k=i.tb) (ud ay)).trans (ud a4).kept (fun k C e=>e.elim id (by omega))
     have d:=(be.trans (zk.of_below (f:=fun k=>k=i.tb) (ud Z)) (fun _ _ e=>e)).trans S.kept (fun k C e=>e.elim id (by omega))
     have bd:=d.trans kp (fun k C e=>by omega)
     refine⟨_,results_none rfl _ _ _,rfl,_,j1.kept kp (fun k C e=>by have:=ud a3 k C;omega),bd,⟨Bs,xs.map (fun x:RSg c=>x.1),(((bk.map (fun p:Sg×SV=>zdE c p.1)).filter (fun x=>vo c m.L m.now x.1)).map (fun x:RSg c=>x.1)),ud aV,fun s=>?_,fun s=>zbM hL (ud aD) (fun s=>vo c m.L m.now s) s,by rw[ud b6]⟩⟩
     ·rw[ud b7];exact zbM hL (ud b1) (fun s=>vq c Bs m.L m.now s) s
    case stop2=>
     rintro D c b W _ _ h _
     exact h.elim
  case stop=>
   rintro D c b W _ _ h _
   exact h.elim
end Go.Proofs.YtpbimdkclnekeaaGreat
