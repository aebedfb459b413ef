import Derived.Test.YtndhpgciopcncaaGreatDoorYLad0
open Option renaming none → I
open Option renaming some → J
open Go.RowKit.Below renaming refl → O
open Nat renaming le_refl → E
open Nat renaming lt_of_lt_of_le → Q
open Go.Value (int)
open Go.IntKind (i64)
set_option linter.unusedVariables false
set_option maxRecDepth 100000
set_option maxHeartbeats 8000000
namespace Go.Proofs.YtndhpgciopcncaaGreatDoor
open Go.RowKit Go.Maps Go.Shelf
open Go.ChangeMaps (setBlock)
attribute [local go_sem] Oper.semAt_some
theorem zeW(now:Int)(TL:List (Jk×Tsk))(s:Sg):(qH now TL s).length<=TL.length+1:=by
 unfold qH;split
 ·omega
 ·rw[kw];split<;>omega
theorem zeV(now:Int)(TL:List (Jk×Tsk))(s:Sg):(yd now TL s).length<=TL.length+1:=by
 unfold yd;split
 ·omega
 ·rw[kw];split<;>omega
theorem Xk(now:Int):∀(l:List Sg) (TL:List (Jk×Tsk)),(l.foldl (qH now) TL).length<=TL.length+l.length
 |[],TL=>by simp
 |s::l,TL=>by have a:=Xk now l (qH now TL s);have b:=zeW now TL s;simp only[List.foldl_cons,List.length_cons];omega
theorem Kc(now:Int):∀(l:List Sg) (TL:List (Jk×Tsk)),(l.foldl (yd now) TL).length<=TL.length+l.length
 |[],TL=>by simp
 |s::l,TL=>by have a:=Kc now l (yd now TL s);have b:=zeV now TL s;simp only[List.foldl_cons,List.length_cons];omega
theorem zbj{c:Cf}{L ps:LV}(e:∀p∈L,inR c p.1)(h:ps.Perm L)(f:Sg->Bool)(s:Sg):s∈(((ps.map (fun p:Sg×SV=>zcX c p.1)).filter (fun x=>f x.1)).map (fun x:RSg c=>x.1))↔s∈zl L/\f s=true:=by
 constructor
 ·intro j
  obtain⟨q,i,rfl⟩:=List.mem_map.1 j
  obtain⟨d,b⟩:=List.mem_filter.1 i
  obtain⟨p,g,rfl⟩:=List.mem_map.1 d
  have a:=h.mem_iff.1 g
  rw[yW (e p a)]at b ⊢
  exact⟨List.mem_map.2 ⟨p,a,rfl⟩,b⟩
 ·rintro⟨d,b⟩
  obtain⟨p,a,rfl⟩:=List.mem_map.1 (show s∈L.map (·.1)from d)
  refine List.mem_map.2 ⟨zcX c p.1,List.mem_filter.2 ⟨List.mem_map.2 ⟨p,h.mem_iff.2 a,rfl⟩,?_⟩,yW (e p a)⟩
  rw[yW (e p a)];exact b
theorem zbG{dn:Bool}{w:World}{i:Ids}{c:Cf}{ep:Int}{m:MS}(h:xP dn w i c ep m)(hc:c.ok)(hL:∀p∈m.L,inR c p.1)(aS:m.L.length<=2000)(S:0<=m.now/\m.now<=100000)(bu:m.TL.length<=50000):
  Calls Tryz.prog 55 #[.pointer (J ⟨i.x,0,I⟩)] w fun e w'=>e=.returned (.tuple #[])/\∃aK,xP dn w' i c ep {m with TL:=aK}/\zk (fun k=>k=i.tb) w w'/\qD c m aK:=by
 have bx:=h.lt
 have a:Below w.1.size w (w.alloc (.cells #[.pointer (J ⟨i.x,0,I⟩)] 38)):=(O _ _).alloc (E _) _
 have q0:=zr w (.cells #[.pointer (J ⟨i.x,0,I⟩)] 38)
 have qz:=zG w (.cells #[.pointer (J ⟨i.x,0,I⟩)] 38)
 obtain⟨-,-,-,-,-,-,-,-,c8,c9,b9⟩:=(h.later a).cells
 obtain⟨p0,-⟩:=zc q0
 have au:=(h.later a).lt
 have ar:=zb q0
 have ak:=fun W hW=>zd (Jf ((h.later (w':=W) hW).set) hc hL aS m.now S)
 have br:=fun W hW=>zd (kC ((h.later (w':=W) hW).set) hc hL m.now S)
 have H:=zd h
 have Q0:=zd q0
 have QZ:=zd qz
 have ag:=zd a
 clear h q0 qz a
 refine(callsIn_wide (n:=7)).1 ?_
 refine callsIn_of_wp_marks Tryz.func55 rfl trivial ?_ rfl
 simp only[Tryz.ntmps55,List.size_toArray,List.length_cons,List.length_nil,Nat.reduceAdd,Nat.reduceSub,Array.replicate_succ,Array.replicate_zero,List.push_toArray,List.append_toArray,List.nil_append,List.cons_append]
 refine wpIn_wide.2 ?_
 go_wp2_with fail
 generalize(w.alloc (.cells #[.pointer (J ⟨i.x,0,I⟩)] 38))=X at*
 have a7:=ud ag
 have bi:X.1.size=w.1.size+1:=ud QZ
 have bj:=a7.size
 have aG:=ak X a7
 have aH:=ak X.drew a7.drew
 have a4:=zd ((ud H).foot_lt)
 clear ak a7 bj bi
 go_region_held3 (fun w'=>w'.cell? ⟨w.1.size,0,I⟩=J (.pointer (J ⟨i.x,0,I⟩))/\w'.cell? ⟨i.x,8,I⟩=J (int i64 m.now)/\w'.cell? ⟨i.x,9,I⟩=J (.pointer (J ⟨i.s,0,I⟩))) (go_keep) (first
  |(go_at_call 112;(first|(with_reducible refine(ud aG).mono ?_)|(with_reducible refine(ud aH).mono ?_));rintro e X1 ⟨Bl,Bh,Bs,rfl,g,aL,aV⟩;have G:Below X.1.size X X1:=⟨g.os,g.tape,g.output,g.size,g.block⟩;have p1:=(G.cell (p:=⟨w.1.size,0,I⟩) ar).trans p0;have d8:=(G.cell (p:=⟨i.x,8,I⟩) au).trans c8;have d9:=(G.cell (p:=⟨i.x,9,I⟩) au).trans c9;have aU:=Q ar G.size;have bp:=Q au G.size;have af:=zd G;have aW:=zd aL;have aJ:=zd aV;clear g G aL aV aG aH))
 all_goals go_wp2_with fail
 all_goals
  have bz:=(ud af).size
  have a2:Below w.1.size w X1:=(ud ag).trans ((ud af).mono (ud ag).size)
  have al:=(ud H).later a2
  have aP:=((ud af).block _ ar).trans (ud Q0)
  have bv:w.1.size<X1.1.size:=aU
  have bo:i.tb<w.1.size:=ud a4 i.tb (.inr (.inr (.inr (.inl rfl))))
  have P:∀k,XS i k->k<X1.1.size:=fun k C=>by have:=ud a4 k C;omega
  have an:∀k,(fun k=>k=i.tb) k->k<w.1.size+1/\¬vy i.s i.tv i.lb i.gb k:=fun k e=>⟨by omega,fun y=>al.parts k y (.inr (.inl e))⟩
  have b5:=zd (ud aJ (fun k=>k=i.tb) (fun k e=>⟨by have:=(an k e).1;have:=ud QZ;show k<X.1.size;omega,(an k e).2⟩))
  have b0:=zd al
  have aF:=zd aP
  have az:=zd a2
  have aY:=zd P
  clear al aP a2 an P aJ p1 d8 d9 p0 c8 c9 b9
  refine(wpIn_wide (n:=7)).1 ?_
  refine yM (F:=Fence.wide) (n:=7) rfl (by omega) (gf:=194) (lb:=#[.pointer (J ⟨Bl,0,I⟩),.pointer (J ⟨Bh,0,I⟩)]) rfl trivial Yj (ud b5 (X1.1.size+2) (by omega)) (E _) (fun h k=>h.trans k) (fun W o o' h hc hw=>KX.putObj o' (by omega) (by omega) h hw) (O _ _) (fun _=>rfl)
   (fun b W=>xP dn W i c ep {m with TL:=(b.map (fun x:RSg c=>x.1)).foldl (qH m.now) m.TL}/\KX (fun k=>k=i.tb) X1.1.size (X1.1.size+2) X1 W)
   (fun _ _ _=>False)
   (fun s A B row y u Z=>⟨y.1.kept (f:=fun k=>X1.1.size<=k) ⟨u.os,u.tape,u.output,u.size,fun k C hn=>u.block k C (fun e=>hn (Z k e.symm).1)⟩ (fun k C e=>by have:=ud aY k C;omega),KX.own (β:=Unit) (q:=X1.1.size) (E _) () A B row y.2 u Z⟩)
   (fun _ _ _ _ _ y _ _=>y)
   ⟨ud b0,KX.refl _ _ _ _⟩
   (fun x a' W=>∃Y,X1.1.size<=Y/\W.1[Y]?=J (.cells #[int i64 x.1.t,int i64 x.1.se,int i64 x.1.wn] 146 (0,0))/\a'={tmps:=#[.pointer (J ⟨i.x,0,I⟩),.pointer (J ⟨w.1.size,0,I⟩),.pointer (J ⟨Y,0,I⟩),undef,.pointer (J ⟨i.x,0,I⟩),.pointer (J ⟨i.x,0,I⟩),.pointer (J ⟨i.x,9,I⟩),.pointer (J ⟨i.s,0,I⟩),.pointer (J ⟨i.x,0,I⟩),.pointer (J ⟨i.x,0,I⟩),.pointer (J ⟨i.x,8,I⟩),int i64 m.now,.func (.func 194) #[] #[.pointer (J ⟨Bl,0,I⟩),.pointer (J ⟨Bh,0,I⟩)],.agg #[int i64 x.1.t,int i64 x.1.se,int i64 x.1.wn],undef,undef,undef,undef,undef,undef,undef,undef,undef,undef,undef,undef,undef,undef,undef,undef,undef,undef,undef,undef,undef,undef,undef,undef,undef,undef,undef,undef,undef,undef,undef,undef,undef,undef],defers:=[]})
   (fun x a' s A B row y u Z=>by
    obtain⟨Y,h1,h2,h3⟩:=y
    exact⟨Y,h1,zI h2 u (fun r e=>(Z r e).2),h3⟩) ?assign ?body ?done ?stop
  case assign=>
   rintro l b x W K ⟨N,i2⟩ hK
   have HK:=zd hK
   have aw:=i2.kept.size
   clear hK
   gi_wp2
   have a:=(O W.1.size W).alloc (E _) (.cells #[int i64 x.1.t,int i64 x.1.se,int i64 x.1.wn] 146)
   exact ud HK _ _ (zw a) (KX.of_below a) ⟨N.later a,i2.trans (KX.of_below a)⟩ ⟨W.1.size,aw,zr _ _,rfl⟩
  case body=>
   rintro l b x a' W hl ⟨r,Z⟩ ⟨N,i2⟩ ⟨Y,ba,hx,rfl⟩ bg
   have aw:=i2.kept.size
   have v:=xV i2 (ud aF) (by omega) (by omega)
   obtain⟨-,-,-,-,-,-,-,-,m8,-,bk⟩:=N.cells
   obtain⟨mp,-⟩:=zc v
   obtain⟨k0,k1,k2,-⟩:=zc hx
   have a9:=N.lt
   have a8:=zb v
   have bb:=zb hx
   dsimp only at m8
   have a1:=zd N
   have a5:=zd i2
   have a3:=x.2.1
   have z:((b.map (fun x:RSg c=>x.1)).foldl (qH m.now) m.TL).length<=100000:=by
    have:=Xk m.now (b.map (fun x:RSg c=>x.1)) m.TL
    rw[List.length_map]at this;omega
   have aj:=zd (zeX ((ud a1).later (O _ _).drew).board x.1 a3 m.now z)
   have ap:Tryz.prog.follows .mixedOrders=true:=by kernel_rfl
   clear N i2 hx v Z z a3
   gi_wp2
   refine jR 11 ap (by kernel_rfl) ?_
   simp only[List.take_succ_cons,List.take_zero,List.drop_succ_cons,List.drop_zero]
   repeat still_step
   refine wpStill_nil ?_
   gi_wp2_with (first|(refine⟨trivial,?_⟩;gi_at_call 113;refine(CallsIn.inRound l (callsIn_wide.2 (ud aj))).mono ?_;rintro e V ⟨rfl,hB,hK⟩;have HB:=zd hB;have ai:=zd hK;clear hB hK)|gi_in)
   have d:zk (fun k=>k=i.tb) W V:=(zk.refl (fun k=>k=i.tb) W).drew.trans (ud ai) (fun _ _ e=>e)
   have ao:=(ud a1).putBoard (ud HB) (d.mono (fun k _ e=> .inr (.inl e)))
   refine⟨Z6 d (by omega),jv d (by omega),?_,(ud a5).trans (jv d (by omega))⟩
   rw[List.map_append,List.foldl_append]
   exact ao
  case done=>
   rintro D xs W hD ⟨ps,hp,aa⟩ ⟨N,i2⟩ aO
   have b8:=zd aa
   have ac:((xs.map (fun x:RSg c=>x.1)).foldl (qH m.now) m.TL).length<=52000:=by
    have:=Xk m.now (xs.map (fun x:RSg c=>x.1)) m.TL
    rw[List.length_map,aa]at this
    have h2:=v7 (fun x=>kJ c Bs m.L m.now x.1) (ps.map (fun p:Sg×SV=>zcX c p.1))
    rw[List.length_map,hp.length_eq]at h2
    rw[aa];omega
   have b6:=zd ac
   clear aa ac
   have a1:=zd N
   have a5:=zd i2
   have aD:=zd aO
   have b2:=zd hp
   clear N i2 aO hp
   gi_wp2
   have N:=ud a1
   have i2:=ud a5
   have aw:=i2.kept.size
   have v:=xV i2 (ud aF) (by omega) (by omega)
   obtain⟨-,-,-,-,-,-,-,-,m8,m9,-⟩:=N.cells
   dsimp only at m8
   obtain⟨mp,-⟩:=zc v
   have a9:=N.lt
   have a8:=zb v
   have aA:=zd (kC N.set hc hL m.now S)
   have aB:=zd (kC (N.later (O _ _).drew).set hc hL m.now S)
   have b3:=zd v
   clear N i2 v
   generalize aR:(xs.map (fun x:RSg c=>x.1)).foldl (qH m.now) m.TL=T1 at*
   have b7:=zd aR
   clear aR
   go_wp2_with fail
   go_region_held3 (fun w'=>w'.cell? ⟨w.1.size,0,I⟩=J (.pointer (J ⟨i.x,0,I⟩))/\w'.cell? ⟨i.x,8,I⟩=J (int i64 m.now)/\w'.cell? ⟨i.x,9,I⟩=J (.pointer (J ⟨i.s,0,I⟩))) (go_keep) (first
    |(go_at_call 114;(first|(with_reducible refine(ud aA).mono ?_)|(with_reducible refine(ud aB).mono ?_));rintro e X2 ⟨ay,ax,rfl,j,ae⟩;have M:Below W.1.size W X2:=⟨j.os,j.tape,j.output,j.size,j.block⟩;have p2:=(M.cell (p:=⟨w.1.size,0,I⟩) a8).trans mp;have n8:=(M.cell (p:=⟨i.x,8,I⟩) a9).trans m8;have n9:=(M.cell (p:=⟨i.x,9,I⟩) a9).trans m9;have bn:=Q a8 M.size;have bq:=Q a9 M.size;have a0:=zd M;have ab:=zd ae;clear j M ae aA aB))
   all_goals go_wp2_with fail
   all_goals
    have bA:=(ud a0).size
    have am:=(ud a1).later (ud a0)
    have aQ:=((ud a0).block _ a8).trans (ud b3)
    have R:∀k,XS i k->k<X2.1.size:=fun k C=>by have:=ud a4 k C;omega
    have ad:∀k,(fun k=>k=i.tb) k->k<W.1.size/\¬vy i.s i.tv i.lb i.gb k:=fun k e=>⟨by omega,fun y=>am.parts k y (.inr (.inl e))⟩
    have aI:=zd (ud ab (fun k=>k=i.tb) ad)
    have bd:=zb (ud aD)
    have aX:=zd (((ud a0).block _ bd).trans (ud aD))
    have bm:D≠i.tb:=by omega
    have b1:=zd am
    have b4:=zd aQ
    have aC:=zd R
    clear am aQ ad R ab p2 n8 n9 mp m8 m9
    refine(wpIn_wide (n:=7)).1 ?_
    refine yM (F:=Fence.wide) (n:=7) rfl (by omega) (gf:=194) (lb:=#[.pointer (J ⟨ay,0,I⟩),.pointer (J ⟨ax,0,I⟩)]) rfl trivial Yj (ud aI (X2.1.size+2) (by omega)) (E _) (fun h k=>h.trans k) (fun W o o' h hc hw=>KX.putObj o' (by omega) (by omega) h hw) (O _ _) (fun _=>rfl)
     (fun b V=>xP dn V i c ep {m with TL:=(b.map (fun x:RSg c=>x.1)).foldl (yd m.now) T1}/\KX (fun k=>k=i.tb) X2.1.size (X2.1.size+2) X2 V)
     (fun _ _ _=>False)
     (fun s A B row y u Z=>⟨y.1.kept (f:=fun k=>X2.1.size<=k) ⟨u.os,u.tape,u.output,u.size,fun k C hn=>u.block k C (fun e=>hn (Z k e.symm).1)⟩ (fun k C e=>by have:=ud aC k C;omega),KX.own (β:=Unit) (q:=X2.1.size) (E _) () A B row y.2 u Z⟩)
     (fun _ _ _ _ _ y _ _=>y)
     ⟨ud b1,KX.refl _ _ _ _⟩
     (fun x a' V=>∃Y,X2.1.size<=Y/\V.1[Y]?=J (.cells #[int i64 x.1.t,int i64 x.1.se,int i64 x.1.wn] 146 (0,0))/\a'={tmps:=#[.pointer (J ⟨i.x,0,I⟩),.pointer (J ⟨w.1.size,0,I⟩),undef,.pointer (J ⟨Y,0,I⟩),.pointer (J ⟨i.x,0,I⟩),.pointer (J ⟨i.x,0,I⟩),.pointer (J ⟨i.x,9,I⟩),.pointer (J ⟨i.s,0,I⟩),.pointer (J ⟨i.x,0,I⟩),.pointer (J ⟨i.x,0,I⟩),.pointer (J ⟨i.x,8,I⟩),int i64 m.now,.func (.func 194) #[] #[.pointer (J ⟨Bl,0,I⟩),.pointer (J ⟨Bh,0,I⟩)],undef,undef,undef,undef,undef,undef,undef,undef,undef,undef,undef,undef,undef,.pointer (J ⟨i.x,0,I⟩),.pointer (J ⟨i.x,0,I⟩),.pointer (J ⟨i.x,9,I⟩),.pointer (J ⟨i.s,0,I⟩),.pointer (J ⟨i.x,0,I⟩),.pointer (J ⟨i.x,0,I⟩),.pointer (J ⟨i.x,8,I⟩),int i64 m.now,.func (.func 194) #[] #[.pointer (J ⟨ay,0,I⟩),.pointer (J ⟨ax,0,I⟩)],.agg #[int i64 x.1.t,int i64 x.1.se,int i64 x.1.wn],undef,undef,undef,undef,undef,undef,undef,undef,undef,undef,undef,undef],defers:=[]})
     (fun x a' s A B row y u Z=>by
      obtain⟨Y,h1,h2,h3⟩:=y
      exact⟨Y,h1,zI h2 u (fun r e=>(Z r e).2),h3⟩) ?assign2 ?body2 ?done2 ?stop2
    case assign2=>
     rintro l b x V K ⟨j1,T⟩ hK
     have HK:=zd hK
     have av:=T.kept.size
     clear hK
     gi_wp2
     have a:=(O V.1.size V).alloc (E _) (.cells #[int i64 x.1.t,int i64 x.1.se,int i64 x.1.wn] 146)
     exact ud HK _ _ (zw a) (KX.of_below a) ⟨j1.later a,T.trans (KX.of_below a)⟩ ⟨V.1.size,av,zr _ _,rfl⟩
    case body2=>
     rintro l b x a' V hl ⟨r,Z⟩ ⟨j1,T⟩ ⟨Y,ba,hx,rfl⟩ bg
     have av:=T.kept.size
     have aq:=xV T (ud b4) (by omega) (by omega)
     obtain⟨-,-,-,-,-,-,-,-,m8,-,bk⟩:=j1.cells
     obtain⟨mp,-⟩:=zc aq
     obtain⟨k0,k1,k2,-⟩:=zc hx
     have bw:=j1.lt
     have bt:=zb aq
     have bb:=zb hx
     dsimp only at m8
     have a6:=zd j1
     have ah:=zd T
     have a3:=x.2.1
     have z:((b.map (fun x:RSg c=>x.1)).foldl (yd m.now) T1).length<=100000:=by
      have:=Kc m.now (b.map (fun x:RSg c=>x.1)) T1
      have h9:=ud b6
      rw[List.length_map]at this;omega
     have aj:=zd (J9 ((ud a6).later (O _ _).drew).board x.1 a3 m.now z)
     have ap:Tryz.prog.follows .mixedOrders=true:=by kernel_rfl
     clear j1 T hx aq Z z a3
     gi_wp2
     refine jR 11 ap (by kernel_rfl) ?_
     simp only[List.take_succ_cons,List.take_zero,List.drop_succ_cons,List.drop_zero]
     repeat still_step
     refine wpStill_nil ?_
     gi_wp2_with (first|(refine⟨trivial,?_⟩;gi_at_call 113;refine(CallsIn.inRound l (callsIn_wide.2 (ud aj))).mono ?_;rintro e U ⟨rfl,hB,hK⟩;have HB:=zd hB;have ai:=zd hK;clear hB hK)|gi_in)
     have d:zk (fun k=>k=i.tb) V U:=(zk.refl (fun k=>k=i.tb) V).drew.trans (ud ai) (fun _ _ e=>e)
     have ao:=(ud a6).putBoard (ud HB) (d.mono (fun k _ e=> .inr (.inl e)))
     refine⟨Z6 d (by omega),jv d (by omega),?_,(ud ah).trans (jv d (by omega))⟩
     rw[List.map_append,List.foldl_append]
     exact ao
    case done2=>
     rintro D2 ys V bs ⟨bl,aT,rfl⟩ ⟨j1,T⟩ aN
     have a6:=zd j1
     have ah:=zd T
     have aZ:=zd aN
     have aE:=zd aT
     clear j1 T aN aT
     gi_wp2
     have j1:=ud a6
     have T:=ud ah
     have av:=T.kept.size
     have bc:=xV T (ud aX) (by omega) (by omega)
     have bh:D≠D2:=by omega
     have aM:=(World.putObj_heap_other (o:=.deferred I) (w:=V) bh).trans bc
     refine⟨by simp,.inl ⟨_,_,rfl,run_takeDeferred (ud aZ),⟨by simp,.inl ⟨_,_,rfl,run_takeDeferred aM,?_⟩⟩⟩⟩
     have kp:zk (fun k=>k=D2\/k=D) V ((V.putObj D2 (.deferred I)).putObj D (.deferred I)):=
      ((zk.refl (fun k=>k=D2\/k=D) V).grown (grownBy_putObj' V D2 (.deferred I)) (fun k e _=>by cases e;exact .inl rfl)).grown (grownBy_putObj' _ D (.deferred I)) (fun k e _=>by cases e;exact .inr rfl)
     have bf:=(zk.of_below (f:=fun k=>k=i.tb) (ud az)).trans (ud a5).kept (fun k C e=>e.elim id (by omega))
     have d:=(bf.trans (zk.of_below (f:=fun k=>k=i.tb) (ud a0)) (fun _ _ e=>e)).trans T.kept (fun k C e=>e.elim id (by omega))
     have be:=d.trans kp (fun k C e=>by omega)
     refine⟨_,results_none rfl _ _ _,rfl,_,j1.kept kp (fun k C e=>by have:=ud a4 k C;omega),be,⟨Bs,xs.map (fun x:RSg c=>x.1),(((bl.map (fun p:Sg×SV=>zcX c p.1)).filter (fun x=>kI c m.L m.now x.1)).map (fun x:RSg c=>x.1)),ud aW,fun s=>?_,fun s=>zbj hL (ud aE) (fun s=>kI c m.L m.now s) s,by rw[ud b7]⟩⟩
     ·rw[ud b8];exact zbj hL (ud b2) (fun s=>kJ c Bs m.L m.now s) s
    case stop2=>
     rintro D c b W _ _ h _
     exact h.elim
  case stop=>
   rintro D c b W _ _ h _
   exact h.elim
end Go.Proofs.YtndhpgciopcncaaGreatDoor
