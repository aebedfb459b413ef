import Derived.Test.YtndhpgciopcncaaGreatDoorHMlo0
import Derived.Test.YtndhpgciopcncaaGreatDoorHAll0
open Go.RowKit.Below renaming refl → J
open Nat renaming lt_of_lt_of_le → E
open Option renaming some → Q
open Nat renaming le_refl → Y
set_option linter.unusedVariables false
set_option maxRecDepth 100000
set_option maxHeartbeats 8000000
open Go.Proofs.Tryz
namespace Go.Proofs.YtndhpgciopcncaaGreatDoor
open Go.ChangeMaps (setBlock)
open Go.RowKit Go.Maps Go.Shelf
variable {c:Cf} {i:Ids} {ep:Int} {q:JM} {m:MS} {w:World}
attribute [local go_sem] Oper.semAt_some
theorem ziY(now:Int)(TL:List (Jk×Tsk))(s:Sg):(yp now TL s).length<=TL.length+1:=by
 unfold yp;split
 ·omega
 ·rw[vB];split<;>omega
theorem ziX(now:Int)(TL:List (Jk×Tsk))(s:Sg):(yS now TL s).length<=TL.length+1:=by
 unfold yS;split
 ·omega
 ·rw[vB];split<;>omega
theorem QH(now:Int):∀(l:List Sg) (TL:List (Jk×Tsk)),(l.foldl (yp now) TL).length<=TL.length+l.length
 |[],TL=>by simp
 |s::l,TL=>by have a:=QH now l (yp now TL s);have b:=ziY now TL s;simp only[List.foldl_cons,List.length_cons];omega
theorem Jd(now:Int):∀(l:List Sg) (TL:List (Jk×Tsk)),(l.foldl (yS now) TL).length<=TL.length+l.length
 |[],TL=>by simp
 |s::l,TL=>by have a:=Jd now l (yS now TL s);have b:=ziX now TL s;simp only[List.foldl_cons,List.length_cons];omega
theorem zel{L ps:LV}(e:∀p∈L,inR c p.1)(h:ps.Perm L)(f:Sg->Bool)(s:Sg):s∈(((ps.map (fun p:Sg×SV=>zgl c p.1)).filter (fun x=>f x.1)).map (fun x:RSg c=>x.1))↔s∈zn L/\f s=true:=by
 constructor
 ·intro j;obtain⟨q,i,rfl⟩:=List.mem_map.1 j;obtain⟨d,b⟩:=List.mem_filter.1 i;obtain⟨p,g,rfl⟩:=List.mem_map.1 d;have a:=h.mem_iff.1 g;rw[vi (e p a)]at b ⊢;exact⟨List.mem_map.2 ⟨p,a,rfl⟩,b⟩
 ·rintro⟨d,b⟩;obtain⟨p,a,rfl⟩:=List.mem_map.1 (show s∈L.map (·.1)from d);refine List.mem_map.2 ⟨zgl c p.1,List.mem_filter.2 ⟨List.mem_map.2 ⟨p,h.mem_iff.2 a,rfl⟩,?_⟩,vi (e p a)⟩;rw[vi (e p a)];exact b
theorem zaf{dn:Bool}(h:xK dn w i c ep m)(hc:c.ok)(hL:∀p∈m.L,inR c p.1)(aQ:m.L.length<=2000)(S:0<=m.now/\m.now<=100000)(bs:m.TL.length<=50000):
  Calls prog 55 #[(O i.x)] w fun e w'=>e=.returned (.tuple #[])/\∃TL',xK dn w' i c ep {m with TL:=TL'}/\zi (fun k=>k=i.tb) w w'/\xB c m TL':=by
 have bv:=h.lt;have a:Below w.1.size w (w.alloc (.cells #[(O i.x)] 38)):=(J _ _).alloc (Y _) _;have q0:=zq w (.cells #[(O i.x)] 38);have qz:=zM w (.cells #[(O i.x)] 38);obtain⟨-,-,-,-,-,-,-,-,c8,c9,b7⟩:=(h.later a).cells;obtain⟨p0,-⟩:=zc q0;have au:=(h.later a).lt;have ar:=zd q0;have ak:=fun W hW=>ze (zcf ((h.later (w':=W) hW).set) hc hL aQ m.now S);have bp:=fun W hW=>ze (vE ((h.later (w':=W) hW).set) hc hL m.now S);have H:=ze h;have Q0:=ze q0;have QZ:=ze qz;have ag:=ze a;clear h q0 qz a;refine(callsIn_wide (n:=7)).1 ?_;refine callsIn_of_wp_marks func55 rfl trivial ?_ rfl;simp only[ntmps55,sZz,Nat.reduceAdd,Nat.reduceSub];refine wpIn_wide.2 ?_;go_wp2_with fail;generalize(w.alloc (.cells #[(O i.x)] 38))=X at*;have a7:=ud ag;have bg:X.1.size=w.1.size+1:=ud QZ;have bh:=a7.size;have aG:=ak X a7;have aH:=ak X.drew a7.drew;have a4:=ze ((ud H).foot_lt);clear ak a7 bh bg;go_region_held3 (fun w'=>w'.cell? (U w.1.size 0)=Q (O i.x)/\w'.cell? (U i.x 8)=Q (I m.now)/\w'.cell? (U i.x 9)=Q (O i.s)) (go_keep) (first
  |(go_at_call 112;(first|(with_reducible refine(ud aG).mono ?_)|(with_reducible refine(ud aH).mono ?_));rintro e X1 ⟨Bl,Bh,Bs,rfl,g,aK,aT⟩;have G:Below X.1.size X X1:=⟨g.os,g.tape,g.output,g.size,g.block⟩;have p1:=(G.cell (p:=(U w.1.size 0)) ar).trans p0;have d8:=(G.cell (p:=(U i.x 8)) au).trans c8;have d9:=(G.cell (p:=(U i.x 9)) au).trans c9;have aS:=E ar G.size;have bn:=E au G.size;have af:=ze G;have aU:=ze aK;have aJ:=ze aT;clear g G aK aT aG aH))
 all_goals go_wp2_with fail
 all_goals
  have bw:=(ud af).size
  have a2:Below w.1.size w X1:=(ud ag).trans ((ud af).mono (ud ag).size)
  have al:=(ud H).later a2
  have aN:=((ud af).block _ ar).trans (ud Q0)
  have bt:w.1.size<X1.1.size:=aS
  have bm:i.tb<w.1.size:=ud a4 i.tb (.inr (.inr (.inr (.inl rfl))))
  have P:∀k,Zz i k->k<X1.1.size:=fun k C=>by have:=ud a4 k C;omega
  have an:∀k,(fun k=>k=i.tb) k->k<w.1.size+1/\¬Z0 i.s i.tv i.lb i.gb k:=fun k e=>⟨by omega,fun y=>al.parts k y (.inr (.inl e))⟩
  have b3:=ze (ud aJ (fun k=>k=i.tb) (fun k e=>⟨by have:=(an k e).1;have:=ud QZ;show k<X.1.size;omega,(an k e).2⟩))
  have aY:=ze al
  have aF:=ze aN
  have az:=ze a2
  have aW:=ze P
  clear al aN a2 an P aJ p1 d8 d9 p0 c8 c9 b7
  refine(wpIn_wide (n:=7)).1 ?_
  refine yg (F:=Fence.wide) (n:=7) rfl (by omega) (gf:=194) (lb:=#[(O Bl),(O Bh)]) rfl trivial Ve (ud b3 (X1.1.size+2) (by omega)) (Y _) (fun h k=>h.trans k) (fun W o o' h hc hw=>KX.putObj o' (by omega) (by omega) h hw) (J _ _) (fun _=>rfl)
   (fun b W=>xK dn W i c ep {m with TL:=(b.map (fun x:RSg c=>x.1)).foldl (yp m.now) m.TL}/\KX (fun k=>k=i.tb) X1.1.size (X1.1.size+2) X1 W)
   (fun _ _ _=>False)
   (fun s A B row y u hr=>⟨y.1.kept (f:=fun k=>X1.1.size<=k) ⟨u.os,u.tape,u.output,u.size,fun k C hn=>u.block k C (fun e=>hn (hr k e.symm).1)⟩ (fun k C e=>by have:=ud aW k C;omega),KX.own (β:=Unit) (q:=X1.1.size) (Y _) () A B row y.2 u hr⟩)
   (fun _ _ _ _ _ y _ _=>y)
   ⟨ud aY,KX.refl _ _ _ _⟩
   (fun x a' W=>∃Z,X1.1.size<=Z/\W.1[Z]?=Q (.cells #[I x.1.t,I x.1.sr,I x.1.wn] 146 (0,0))/\a'={tmps:=#[(O i.x),(O w.1.size),(O Z),undef,(O i.x),(O i.x),.pointer (Q (U i.x 9)),(O i.s),(O i.x),(O i.x),.pointer (Q (U i.x 8)),I m.now,.func (.func 194) #[] #[(O Bl),(O Bh)],.agg #[I x.1.t,I x.1.sr,I x.1.wn],undef,undef,undef,undef,undef,undef,undef,undef,undef,undef,undef,undef,undef,undef,undef,undef,undef,undef,undef,undef,undef,undef,undef,undef,undef,undef,undef,undef,undef,undef,undef,undef,undef,undef],defers:=[]})
   (fun x a' s A B row y u hr=>by
    obtain⟨Z,h1,h2,h3⟩:=y;exact⟨Z,h1,zv h2 u (fun r e=>(hr r e).2),h3⟩) ?assign ?body ?done ?stop
  case assign=>
   rintro l b x W K ⟨N,i2⟩ hK;have HK:=ze hK;have aw:=i2.kept.size;clear hK;gi_wp2;have a:=(J W.1.size W).alloc (Y _) (.cells #[I x.1.t,I x.1.sr,I x.1.wn] 146);exact ud HK _ _ (zo a) (KX.of_below a) ⟨N.later a,i2.trans (KX.of_below a)⟩ ⟨W.1.size,aw,zq _ _,rfl⟩
  case body=>
   rintro l b x a' W hl ⟨r,hr⟩ ⟨N,i2⟩ ⟨Z,b8,hx,rfl⟩ be;have aw:=i2.kept.size;have v:=qC i2 (ud aF) (by omega) (by omega);obtain⟨-,-,-,-,-,-,-,-,m8,-,bi⟩:=N.cells;obtain⟨mp,-⟩:=zc v;obtain⟨k0,k1,k2,-⟩:=zc hx;have a9:=N.lt;have a8:=zd v;have b9:=zd hx;dsimp only at m8;have a1:=ze N;have a5:=ze i2;have a3:=x.2.1;have z:((b.map (fun x:RSg c=>x.1)).foldl (yp m.now) m.TL).length<=100000:=by
    have:=QH m.now (b.map (fun x:RSg c=>x.1)) m.TL;rw[List.length_map]at this;omega
   have aj:=ze (ziZ ((ud a1).later (J _ _).drew).board x.1 a3 m.now z);have ap:prog.follows .mixedOrders=true:=(by kernel_rfl);clear N i2 hx v hr z a3;gi_wp2;refine Xi 11 ap (by kernel_rfl) ?_;simp only[List.take_succ_cons,List.take_zero,List.drop_succ_cons,List.drop_zero];repeat still_step
   refine wpStill_nil ?_;gi_wp2_with (first|(refine⟨trivial,?_⟩;gi_at_call 113;refine(CallsIn.inRound l (callsIn_wide.2 (ud aj))).mono ?_;rintro e V ⟨rfl,hB,hK⟩;have HB:=ze hB;have ai:=ze hK;clear hB hK)|gi_in);have d:zi (fun k=>k=i.tb) W V:=(zi.refl (fun k=>k=i.tb) W).drew.trans (ud ai) (fun _ _ e=>e);have ao:=(ud a1).putBoard (ud HB) (d.mono (fun k _ e=> .inr (.inl e)));refine⟨Xw d (by omega),ZS d (by omega),?_,(ud a5).trans (ZS d (by omega))⟩;rw[List.map_append,List.foldl_append];exact ao
  case done=>
   rintro D xs W hD ⟨ps,hp,aa⟩ ⟨N,i2⟩ aM;have b6:=ze aa;have ac:((xs.map (fun x:RSg c=>x.1)).foldl (yp m.now) m.TL).length<=52000:=by
    have:=QH m.now (xs.map (fun x:RSg c=>x.1)) m.TL;rw[List.length_map,aa]at this;have h2:=yK (fun x=>yU c Bs m.L m.now x.1) (ps.map (fun p:Sg×SV=>zgl c p.1));rw[List.length_map,hp.length_eq]at h2;rw[aa];omega
   have b4:=ze ac;clear aa ac;have a1:=ze N;have a5:=ze i2;have aD:=ze aM;have b0:=ze hp;clear N i2 aM hp;gi_wp2;have N:=ud a1;have i2:=ud a5;have aw:=i2.kept.size;have v:=qC i2 (ud aF) (by omega) (by omega);obtain⟨-,-,-,-,-,-,-,-,m8,m9,-⟩:=N.cells;dsimp only at m8;obtain⟨mp,-⟩:=zc v;have a9:=N.lt;have a8:=zd v;have aA:=ze (vE N.set hc hL m.now S);have aB:=ze (vE (N.later (J _ _).drew).set hc hL m.now S);have b1:=ze v;clear N i2 v;generalize aP:(xs.map (fun x:RSg c=>x.1)).foldl (yp m.now) m.TL=T1 at*;have b5:=ze aP;clear aP;go_wp2_with fail;go_region_held3 (fun w'=>w'.cell? (U w.1.size 0)=Q (O i.x)/\w'.cell? (U i.x 8)=Q (I m.now)/\w'.cell? (U i.x 9)=Q (O i.s)) (go_keep) (first
    |(go_at_call 114;(first|(with_reducible refine(ud aA).mono ?_)|(with_reducible refine(ud aB).mono ?_));rintro e X2 ⟨ay,ax,rfl,j,ae⟩;have M:Below W.1.size W X2:=⟨j.os,j.tape,j.output,j.size,j.block⟩;have p2:=(M.cell (p:=(U w.1.size 0)) a8).trans mp;have n8:=(M.cell (p:=(U i.x 8)) a9).trans m8;have n9:=(M.cell (p:=(U i.x 9)) a9).trans m9;have bl:=E a8 M.size;have bo:=E a9 M.size;have a0:=ze M;have ab:=ze ae;clear j M ae aA aB))
   all_goals go_wp2_with fail
   all_goals
    have bx:=(ud a0).size
    have am:=(ud a1).later (ud a0)
    have aO:=((ud a0).block _ a8).trans (ud b1)
    have R:∀k,Zz i k->k<X2.1.size:=fun k C=>by have:=ud a4 k C;omega
    have ad:∀k,(fun k=>k=i.tb) k->k<W.1.size/\¬Z0 i.s i.tv i.lb i.gb k:=fun k e=>⟨by omega,fun y=>am.parts k y (.inr (.inl e))⟩
    have aI:=ze (ud ab (fun k=>k=i.tb) ad)
    have bb:=zd (ud aD)
    have aV:=ze (((ud a0).block _ bb).trans (ud aD))
    have bk:D≠i.tb:=by omega
    have aZ:=ze am
    have b2:=ze aO
    have aC:=ze R
    clear am aO ad R ab p2 n8 n9 mp m8 m9
    refine(wpIn_wide (n:=7)).1 ?_
    refine yg (F:=Fence.wide) (n:=7) rfl (by omega) (gf:=194) (lb:=#[(O ay),(O ax)]) rfl trivial Ve (ud aI (X2.1.size+2) (by omega)) (Y _) (fun h k=>h.trans k) (fun W o o' h hc hw=>KX.putObj o' (by omega) (by omega) h hw) (J _ _) (fun _=>rfl)
     (fun b V=>xK dn V i c ep {m with TL:=(b.map (fun x:RSg c=>x.1)).foldl (yS m.now) T1}/\KX (fun k=>k=i.tb) X2.1.size (X2.1.size+2) X2 V)
     (fun _ _ _=>False)
     (fun s A B row y u hr=>⟨y.1.kept (f:=fun k=>X2.1.size<=k) ⟨u.os,u.tape,u.output,u.size,fun k C hn=>u.block k C (fun e=>hn (hr k e.symm).1)⟩ (fun k C e=>by have:=ud aC k C;omega),KX.own (β:=Unit) (q:=X2.1.size) (Y _) () A B row y.2 u hr⟩)
     (fun _ _ _ _ _ y _ _=>y)
     ⟨ud aZ,KX.refl _ _ _ _⟩
     (fun x a' V=>∃Z,X2.1.size<=Z/\V.1[Z]?=Q (.cells #[I x.1.t,I x.1.sr,I x.1.wn] 146 (0,0))/\a'={tmps:=#[(O i.x),(O w.1.size),undef,(O Z),(O i.x),(O i.x),.pointer (Q (U i.x 9)),(O i.s),(O i.x),(O i.x),.pointer (Q (U i.x 8)),I m.now,.func (.func 194) #[] #[(O Bl),(O Bh)],undef,undef,undef,undef,undef,undef,undef,undef,undef,undef,undef,undef,undef,(O i.x),(O i.x),.pointer (Q (U i.x 9)),(O i.s),(O i.x),(O i.x),.pointer (Q (U i.x 8)),I m.now,.func (.func 194) #[] #[(O ay),(O ax)],.agg #[I x.1.t,I x.1.sr,I x.1.wn],undef,undef,undef,undef,undef,undef,undef,undef,undef,undef,undef,undef],defers:=[]})
     (fun x a' s A B row y u hr=>by
      obtain⟨Z,h1,h2,h3⟩:=y;exact⟨Z,h1,zv h2 u (fun r e=>(hr r e).2),h3⟩) ?assign2 ?body2 ?done2 ?stop2
    case assign2=>
     rintro l b x V K ⟨j1,T⟩ hK;have HK:=ze hK;have av:=T.kept.size;clear hK;gi_wp2;have a:=(J V.1.size V).alloc (Y _) (.cells #[I x.1.t,I x.1.sr,I x.1.wn] 146);exact ud HK _ _ (zo a) (KX.of_below a) ⟨j1.later a,T.trans (KX.of_below a)⟩ ⟨V.1.size,av,zq _ _,rfl⟩
    case body2=>
     rintro l b x a' V hl ⟨r,hr⟩ ⟨j1,T⟩ ⟨Z,b8,hx,rfl⟩ be;have av:=T.kept.size;have aq:=qC T (ud b2) (by omega) (by omega);obtain⟨-,-,-,-,-,-,-,-,m8,-,bi⟩:=j1.cells;obtain⟨mp,-⟩:=zc aq;obtain⟨k0,k1,k2,-⟩:=zc hx;have bu:=j1.lt;have br:=zd aq;have b9:=zd hx;dsimp only at m8;have a6:=ze j1;have ah:=ze T;have a3:=x.2.1;have z:((b.map (fun x:RSg c=>x.1)).foldl (yS m.now) T1).length<=100000:=by
      have:=Jd m.now (b.map (fun x:RSg c=>x.1)) T1;have h9:=ud b4;rw[List.length_map]at this;omega
     have aj:=ze (zbU ((ud a6).later (J _ _).drew).board x.1 a3 m.now z);have ap:prog.follows .mixedOrders=true:=(by kernel_rfl);clear j1 T hx aq hr z a3;gi_wp2;refine Xi 11 ap (by kernel_rfl) ?_;simp only[List.take_succ_cons,List.take_zero,List.drop_succ_cons,List.drop_zero];repeat still_step
     refine wpStill_nil ?_;gi_wp2_with (first|(refine⟨trivial,?_⟩;gi_at_call 113;refine(CallsIn.inRound l (callsIn_wide.2 (ud aj))).mono ?_;rintro e U9 ⟨rfl,hB,hK⟩;have HB:=ze hB;have ai:=ze hK;clear hB hK)|gi_in);have d:zi (fun k=>k=i.tb) V U9:=(zi.refl (fun k=>k=i.tb) V).drew.trans (ud ai) (fun _ _ e=>e);have ao:=(ud a6).putBoard (ud HB) (d.mono (fun k _ e=> .inr (.inl e)));refine⟨Xw d (by omega),ZS d (by omega),?_,(ud ah).trans (ZS d (by omega))⟩;rw[List.map_append,List.foldl_append];exact ao
    case done2=>
     rintro D2 ys V bq ⟨bj,aR,rfl⟩ ⟨j1,T⟩ hK2;have a6:=ze j1;have ah:=ze T;have aX:=ze hK2;have aE:=ze aR;clear j1 T hK2 aR;gi_wp2;have j1:=ud a6;have T:=ud ah;have av:=T.kept.size;have ba:=qC T (ud aV) (by omega) (by omega);have bf:D≠D2:=(by omega);have aL:=(World.putObj_heap_other (o:=.deferred none) (w:=V) bf).trans ba;refine⟨by simp,.inl ⟨_,_,rfl,run_takeDeferred (ud aX),⟨by simp,.inl ⟨_,_,rfl,run_takeDeferred aL,?_⟩⟩⟩⟩;have kp:zi (fun k=>k=D2\/k=D) V ((V.putObj D2 (.deferred none)).putObj D (.deferred none)):=
      ((zi.refl (fun k=>k=D2\/k=D) V).grown (grownBy_putObj' V D2 (.deferred none)) (fun k e _=>by cases e;exact .inl rfl)).grown (grownBy_putObj' _ D (.deferred none)) (fun k e _=>by cases e;exact .inr rfl)
     have bd:=(zi.of_below (f:=fun k=>k=i.tb) (ud az)).trans (ud a5).kept (fun k C e=>e.elim id (by omega));have d:=(bd.trans (zi.of_below (f:=fun k=>k=i.tb) (ud a0)) (fun _ _ e=>e)).trans T.kept (fun k C e=>e.elim id (by omega));have bc:=d.trans kp (fun k C e=>by omega);refine⟨_,results_none rfl _ _ _,rfl,_,j1.kept kp (fun k C e=>by have:=ud a4 k C;omega),bc,⟨Bs,xs.map (fun x:RSg c=>x.1),(((bj.map (fun p:Sg×SV=>zgl c p.1)).filter (fun x=>yT c m.L m.now x.1)).map (fun x:RSg c=>x.1)),ud aU,fun s=>?_,fun s=>zel hL (ud aE) (fun s=>yT c m.L m.now s) s,by rw[ud b5]⟩⟩
     ·rw[ud b6];exact zel hL (ud b0) (fun s=>yU c Bs m.L m.now s) s
    case stop2=>
     rintro D c b W _ _ h _;exact h.elim
  case stop=>
   rintro D c b W _ _ h _;exact h.elim
def xm(now:Int)(xs:List SX):ByteArray:=⟨(Zd now xs).toArray⟩
theorem yZ(now:Int)(xs:List SX):(xm now xs).size=(Zd now xs).length:=by simp[xm,ByteArray.size]
theorem Za{w':World}(h:Qo w)(a:Below w.1.size w w'):Qo w':=zcs h a
theorem zO.cells(h:zO w i c ep m q):w.cell? (U i.x 8)=Q (I m.now)/\w.cell? (U i.x 9)=Q (O i.s)/\w.cell? (U i.x 10)=Q (O i.b)/\w.cell? (U i.x 11)=Q (O i.j)/\w.cell? (U i.x 12)=Q (.bool q.dn):=by
 refine⟨?_,?_,?_,?_,?_⟩<;>rw[xR h.head]<;>rfl
theorem J3(h:zO w i c ep m q)(n:xz m.now)(y:∀x∈yJ m.L m.Gl,okX x)(a1:m.L.length<=1000000)(a6:m.Gl.length<=50000000)(N:Nat)(hN:N<=1000000000000)(hd:DOk q.S N):
  Calls prog 73 #[(O i.x)] w fun e w'=>∃ys:List SX,ys.Perm (yJ m.L m.Gl)/\e=.returned (.bool (QJ q.S (xm m.now ys)))/\zO w' i c ep m {q with st:=Vu q.S (xm m.now ys) q.st,S:=Xj q.S (xm m.now ys)}/\Kx i w w':=by
 obtain⟨x8,x9,-,a5,-⟩:=h.cells;have M:=h.lt;have P:=fun W (z:Below w.1.size w W)=>ze (znt (h.later z).set a1 (by omega));have R:=P w (J _ _);have X:=P w.drew (J _ _).drew;have t:=fun(ys:List SX) (v:Value) W (g:ys.Perm (yJ m.L m.Gl)) (z:Below w.1.size w W) (hr:SRd W v ys)=>ze (zcB m.now n ys (fun x hx=>y x (g.mem_iff.1 hx)) (by rw[g.length_eq];unfold yJ;rw[List.length_append,List.length_map];omega) v W hr (Za h.tab z));have r:=fun(ys:List SX) W (g:ys.Perm (yJ m.L m.Gl)) (z:Below w.1.size w W)=>(by
  obtain⟨fs,hj⟩:=(h.later z).jrn;have a7:(xm m.now ys).size<=20000000000:=by
   rw[yZ];have h1:=kE n (fun x hx=>y x (g.mem_iff.1 hx));have h2:=g.length_eq;unfold yJ at h2;rw[List.length_append,List.length_map]at h2;omega
  exact(zjn hj (xm m.now ys) N (by omega) hd).mono fun e w' ⟨he,hE⟩=>(⟨he,(h.later z).putJrn hj hE⟩:e=.returned (.bool (QJ q.S (xm m.now ys)))/\zO w' i c ep m {q with st:=Vu q.S (xm m.now ys) q.st,S:=Xj q.S (xm m.now ys)}/\Kx i W w'):Calls prog 133 #[(O i.j),.string (xm m.now ys)] W fun e w'=>e=.returned (.bool (QJ q.S (xm m.now ys)))/\zO w' i c ep m {q with st:=Vu q.S (xm m.now ys) q.st,S:=Xj q.S (xm m.now ys)}/\Kx i W w')
 have B:=ze h.dlt;clear h P hd y;go_enter func73,ntmps73;go_wp2_with fail;go_region_held3 (fun w'=>w'.cell? (U i.x 8)=Q (I m.now)/\w'.cell? (U i.x 9)=Q (O i.s)/\w'.cell? (U i.x 11)=Q (O i.j)) (go_keep) (first
  |(go_at_call 134;(first|(with_reducible refine(ud R).mono ?_)|(with_reducible refine(ud X).mono ?_));rintro e V ⟨ys,v,g,rfl,k,b⟩;have d:Below w.1.size w V:=⟨b.os,b.tape,b.output,b.size,b.block⟩;have v8:=(d.cell (p:=(U i.x 8)) M).trans x8;have v9:=(d.cell (p:=(U i.x 9)) M).trans x9;have a4:=(d.cell (p:=(U i.x 11)) M).trans a5;have K:=E M d.size;have Z:=t ys v V g d k;have a0:=t ys v V.drew g d.drew (k.later (J _ _).drew);have A:=ze d;have o:=ze g;obtain⟨va,vc,a2⟩:=k.slice;subst a2;clear d b k g t)
  |(go_at_call 108;(first|(with_reducible refine(ud Z).mono ?_)|(with_reducible refine(ud a0).mono ?_));rintro e H ⟨rfl,a⟩;have f:Below V.1.size V H:=⟨a.os,a.tape,a.output,a.size,a.block⟩;have u8:=(f.cell (p:=(U i.x 8)) K).trans v8;have u9:=(f.cell (p:=(U i.x 9)) K).trans v9;have a8:=(f.cell (p:=(U i.x 11)) K).trans a4;have l:Below w.1.size w H:=(ud A).trans (f.mono (ud A).size);have lU:=E K f.size;have C:=ze (r ys H (ud o) l);have D:=ze (r ys H.drew (ud o) l.drew);unfold xm at C D;have F:=ze l;clear f a l r)
  |(go_at_call 133;(with_reducible refine(ud C).mono ?_);rintro e T ⟨rfl,u,G⟩;obtain⟨t8,t9,-,a3,-⟩:=u.cells;have HM:=ze u;have HK:=ze ((Kx.below (ud F) (ud B)).trans G);clear u G)
  |(go_at_call 133;(with_reducible refine(ud D).mono ?_);rintro e T ⟨rfl,u,G⟩;obtain⟨t8,t9,-,a3,-⟩:=u.cells;have HM:=ze u;have HK:=ze ((Kx.below (ud F).drew (ud B)).trans G);clear u G))
 all_goals go_wp2_with fail
 all_goals go_ret
 all_goals exact⟨ys,ud o,rfl,ud HM,ud HK⟩
end Go.Proofs.YtndhpgciopcncaaGreatDoor
