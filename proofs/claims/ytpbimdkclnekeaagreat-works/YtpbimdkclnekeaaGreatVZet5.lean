import Derived.Test.YtpbimdkclnekeaaGreatVJn2
open Go.Value renaming int → I
open Go.IntKind renaming i64 → O
open Option renaming some → E
open Option renaming none → Q
open Nat renaming lt_of_lt_of_le → S
open Go.IntKind renaming i32 → G
open Go.RowKit.Below renaming refl → P
set_option linter.unusedVariables false
set_option maxRecDepth 100000
set_option maxHeartbeats 8000000
namespace Go.Proofs.YtpbimdkclnekeaaGreat
open Go.RowKit Go.Maps Go.Shelf
open Go.ChangeMaps (setBlock)
attribute [local go_sem] Oper.semAt_some
theorem zjL{c:Cf}{L:LV}{se tm val we:Int}(b:tm/c.wh (-1)=we)(hv: -2147483648<=val/\val<=2147483647)(a:(kV L ⟨-1,se,we⟩).isSome=false):yi L ⟨-1,se,we⟩ ⟨1,xQ [kh val]⟩=xS c L ⟨se,tm,val⟩:=by
 subst b
 unfold xS
 have e:xq c ⟨se,tm,val⟩=⟨-1,se,tm/c.wh (-1)⟩:=rfl
 rw[e]
 cases h:kV L ⟨-1,se,tm/c.wh (-1)⟩with
 |none=>rw[zhG val hv];rfl
 |some v=>rw[h]at a;simp at a
theorem zjM{c:Cf}{L:LV}{se tm val we:Int}{d:SV}(i:tm/c.wh (-1)=we)(hv: -2147483648<=val/\val<=2147483647)(b:(kV L ⟨-1,se,we⟩).isSome=true)(g:stL L ⟨-1,se,we⟩=d)(a:∀p∈L,p.1.t= -1->p.2.cl.small):yi L ⟨-1,se,we⟩ ⟨1,xQ [kh val,d.cl]⟩=xS c L ⟨se,tm,val⟩:=by
 subst i g
 unfold xS
 have e:xq c ⟨se,tm,val⟩=⟨-1,se,tm/c.wh (-1)⟩:=rfl
 rw[e]
 cases h:kV L ⟨-1,se,tm/c.wh (-1)⟩with
 |none=>rw[h]at b;simp at b
 |some v=>
  have f:stL L ⟨-1,se,tm/c.wh (-1)⟩=v:=by unfold stL;rw[h];rfl
  rw[f,zhH val hv v.cl (a _ (jU h) rfl)];rfl
theorem zdH{N:Nat}{A B:World}{q s:Nat}{c:Cf}{tv:Value}{lb gb:Nat}{se tm:Int}(h:jz A q s c tv lb gb se tm)(b:zk (fun k=>k=lb\/N<=k) A B)(g:lb<q)(f:q+2<N)(d:∀k,ZI s tv lb gb k->k<N)(hn:¬s=lb/\∀k,tv.ownBlock=E k->¬k=lb):jz B q s c tv lb gb se tm:=by
 have i:=d s (.inl rfl)
 refine⟨b.heap h.b0 (by omega),b.heap h.b1 (by omega),b.heap h.b2 (by omega),h.hd.kept b (fun e=>?_) (fun k a e=>?_)⟩
 ·rcases e with e|e
  ·exact hn.1 e
  ·omega
 ·have:=d k (.inr (.inl a))
  rcases e with e|e
  ·exact hn.2 k a e
  ·omega
theorem J5{w W X b:World}{s lb gb N:Nat}{c:Cf}{tv:Value}{Gl:List (Sg×Unit)}{j:LV}{f:List WSg}{x:WSg}{l:LV}{cs:Array Value}{t:TypeId}(n:lb<w.1.size/\w.1.size<=N)(g:yA Gl j (f++[x])=l)(i1:W.1[w.1.size]?=E (.cells cs t (0,0)))(i3:zk (fun k=>k=lb) w W)(d:Below W.1.size W X)(e:xJ b s c tv lb gb Gl l)(a:zk (fun k=>k=lb) X b):
  KeepsFrom N W b/\zk (fun k=>k=lb\/N<=k) W b/\(b.1[w.1.size]?=E (.cells cs t (0,0))/\xJ b s c tv lb gb Gl (yA Gl j (f++[x]))/\zk (fun k=>k=lb) w b):=by
 have i:=(d.block _ (zd i1)).trans i1
 refine⟨⟨Nat.le_trans d.size a.size,fun k o q m p=>?_⟩,(zk.of_below d).trans a (fun _ _ h=> .inl h),a.heap i (by omega),by rw[g];exact e,(qS i3 d).trans a (fun _ _ h=>h)⟩
 exact a.heap ((d.block k (zd m)).trans m) (by omega)
theorem zhW{w:World}{s:Nat}{c:Cf}{tv:Value}{lb gb:Nat}{Gl:List (Sg×Unit)}{L:LV}(h:xJ w s c tv lb gb Gl L)(hc:c.ok)(se tm val:Int)(aw:0<=se/\se<4)(ag:0<=tm/\tm<=100000)(bP: -2147483648<=val/\val<=2147483647)(bM:zgu L)(c9:L.length<=1000000)(bL:∀p∈L,p.1.t= -1->p.2.cl.small)(bF:∀k:Nat,k<c.n->zV Gl (qs c se tm k)=Q):
  Calls Tryz.prog 116 #[.pointer (E ⟨s,0,Q⟩),I O se,I O tm,I G val] w fun e w'=>e=.returned (.tuple #[])/\xJ w' s c tv lb gb Gl (kJ c L ⟨se,tm,val⟩)/\zk (fun k=>k=lb) w w':=by
 have ck:=hc.n1
 have ba:(⟨-1,se,tm/c.wh (-1)⟩:Sg).wf:=by
  obtain⟨cm,cn⟩:=hc.wh (t:= -1) (by omega) (by omega)
  have hd:0<=tm/c.wh (-1):=Int.ediv_nonneg ag.1 (by omega)
  have ci:tm/c.wh (-1)<=tm:=Int.ediv_le_self _ ag.1
  refine⟨?_,?_,?_⟩<;>unfold yS<;>simp only<;>omega
 obtain⟨we,ay⟩:∃we,tm/c.wh (-1)=we:=⟨_,rfl⟩
 have bK:=h.lt
 have aW:Below w.1.size w (w.alloc (.cells #[.pointer (E ⟨s,0,Q⟩)] 81)):=(P _ _).alloc (Nat.le_refl _) _
 have bA:=zo w (.cells #[.pointer (E ⟨s,0,Q⟩)] 81)
 have bQ:=zF w (.cells #[.pointer (E ⟨s,0,Q⟩)] 81)
 have aS:=ze (zcg (h.hd.later aW) hc (-1) se tm (by omega) (by omega) ag)
 rw[ay]at aS ba
 have H:=ze h
 have aO:=ze aW
 have bq:=ze bA
 have aU:=ze bQ
 have aj:=ze ay
 have a6:=ze ba
 obtain⟨b6,b7⟩:=bP
 obtain⟨a,bN⟩:∃a,stL L ⟨-1,se,we⟩=a:=⟨_,rfl⟩
 obtain⟨ok,bH⟩:∃ok,(kV L ⟨-1,se,we⟩).isSome=ok:=⟨_,rfl⟩
 have aA:=ze bN
 have ai:=ze bH
 clear h aW bA bQ ay ba bN bH
 refine(callsIn_wide (n:=7)).1 ?_
 refine callsIn_of_wp_marks Tryz.func116 rfl trivial ?_ rfl
 simp only[Tryz.ntmps116,List.size_toArray,List.length_cons,List.length_nil,Nat.reduceAdd,Nat.reduceSub,Array.replicate_succ,Array.replicate_zero,List.push_toArray,List.append_toArray,List.nil_append,List.cons_append]
 refine wpIn_wide.2 ?_
 go_wp2_with fail
 refine(ud aS).mono ?_
 rintro e d ⟨rfl,aD⟩
 have aP:=ze ((ud aO).trans (aD.mono (ud aO).size))
 have bB:=(aD.block w.1.size (by rw[ud aU];omega)).trans (ud bq)
 have bR:w.1.size<d.1.size:=by have:=aD.size;rw[ud aU]at this;omega
 clear aD
 go_wp2_with fail
 obtain⟨y0,y1,aX,yz⟩:=box2 d (.cells #[I O (-1),I O se,I O we] 137) (.cells #[I O 1,I O val,I G val,I G val] 114)
 generalize((d.alloc (.cells #[I O (-1),I O se,I O we] 137)).alloc (.cells #[I O 1,I O val,I G val,I G val] 114))=X at*
 have u:Below w.1.size w X:=(ud aP).trans (aX.mono (ud aP).size)
 have b0:=(aX.block w.1.size bR).trans bB
 obtain⟨-,-,-,-,-,-,-,x7,-⟩:=((ud H).later u).cells
 obtain⟨x0,-⟩:=zc b0
 obtain⟨k0,k1,k2,-⟩:=zc y0
 have ca:s<X.1.size:=S bK u.size
 have b2:w.1.size<X.1.size:=by omega
 have aY:d.1.size<X.1.size:=by omega
 have aE:d.1.size+1<X.1.size:=by omega
 have g0:=Zl (X:=X) (ud H).live u (ud a6)
 have g1:=Zl (X:=X.drew) (ud H).live u.drew (ud a6)
 have g2:=fun o=>Zl (X:=X.alloc o) (ud H).live (u.alloc u.size o) (ud a6)
 have g3:=fun o=>Zl (X:=(X.alloc o).drew) (ud H).live (u.alloc u.size o).drew (ud a6)
 have g4:=fun o=>Zl (X:=X.drew.alloc o) (ud H).live (u.drew.alloc u.drew.size o) (ud a6)
 rw[ud aA,ud ai]at g0 g1
 simp only[ud aA,ud ai]at g2 g3 g4
 have ak:=ze u
 have aT:=ze b0
 have Y0:=ze y0
 have Y1:=ze y1
 have YZ:=ze yz
 clear u b0 y0 y1 yz aX bB
 go_region
 have bv:Below X.1.size X ((X.alloc (.cells #[I O a.st,I O a.cl.cnt,I O a.cl.sum,I G a.cl.mn,I G a.cl.mx] 131)).drew):=((P _ _).alloc (Nat.le_refl _) _).drew
 have bC:((X.alloc (.cells #[I O a.st,I O a.cl.cnt,I O a.cl.sum,I G a.cl.mn,I G a.cl.mx] 131)).drew).1[X.1.size]?=E (.cells #[I O a.st,I O a.cl.cnt,I O a.cl.sum,I G a.cl.mn,I G a.cl.mx] 131 (0,0)):=zo _ _
 have bT:((X.alloc (.cells #[I O a.st,I O a.cl.cnt,I O a.cl.sum,I G a.cl.mn,I G a.cl.mx] 131)).drew).1.size=X.1.size+1:=zF _ _
 generalize((X.alloc (.cells #[I O a.st,I O a.cl.cnt,I O a.cl.sum,I G a.cl.mn,I G a.cl.mx] 131)).drew)=Y at*
 have z:=ze bv
 have br:=ze bC
 have bu:=ze bT
 clear g0 g1 g2 g3 g4 x0 x7 k0 k1 k2 bv bC bT
 have ad:L.length<maxLen:=by simp only[maxLen];omega
 have aq:=(ud H).live.lt
 have ar:¬w.1.size=lb:=by omega
 have ac:¬d.1.size=lb:=by omega
 have au:¬s=lb:=fun e=>by
  obtain⟨es,cl,hb,_⟩:=(ud H).live
  have hh:=(ud H).head
  rw[e,hb]at hh;cases hh
 have bn:=fun W=>ze (QP s se tm W)
 have a4:Hid (∀k,ZI s tv lb gb k->k<w.1.size):=fun k hk=>by
  rcases hk with rfl|hk|rfl|rfl
  ·exact bK
  ·exact vw (ud H).trow k hk
  ·exact aq
  ·exact(ud H).gone.lt
 have bs:Hid (¬s=lb/\∀k,tv.ownBlock=E k->¬k=lb):=⟨au,fun k hk e=>by
  obtain⟨cf,aG⟩:=zO (ud H).trow hk
  obtain⟨es,cl,hb,_⟩:=(ud H).live
  rw[e,hb]at aG;cases aG⟩
 rename_i Q1 K1 aK1 K2 aK2
 have aN:∀(v9 bb bc bd be bf bg bh bi bj bk bl bm:Value) (b:Cl) (Z:World),(∀V,Below Z.1.size Z V->Hid (Calls Tryz.prog 141 #[v9] V fun e w'=>e=.returned (.agg #[I O b.cnt,I O b.sum,I G b.mn,I G b.mx])/\Below V.1.size V w'))->Hid (yi L ⟨-1,se,we⟩ ⟨1,b⟩=xS c L ⟨se,tm,val⟩)->Hid (Below w.1.size w Z)->Hid (Z.1[w.1.size]?=E (.cells #[.pointer (E ⟨s,0,Q⟩)] 81 (0,0)))->Hid (Z.1[d.1.size]?=E (.cells #[I O (-1),I O se,I O we] 137 (0,0)))->K1 {tmps:=#[.pointer (E ⟨s,0,Q⟩),I O se,I O tm,I G val,.pointer (E ⟨w.1.size,0,Q⟩),undef,undef,undef,.pointer (E ⟨d.1.size,0,Q⟩),v9,bb,bc,undef,.pointer (E ⟨s,0,Q⟩),I O se,I O tm,.agg #[I O (-1),I O se,I O we],I G val,I O val,I G val,I G val,.agg #[I O 1,I O val,I G val,I G val],.slice (E ⟨d.1.size+1,0,Q⟩) 1 1,bd,.pointer (E ⟨s,0,Q⟩),.pointer (E ⟨s,0,Q⟩),.pointer (E ⟨s,7,Q⟩),.map (E lb),.agg #[I O (-1),I O se,I O we],be,bf,bg,bh,bi,bj,bk,bl,bm,undef,undef,undef,undef,undef,undef,undef,undef,undef,undef,undef,undef,undef,undef,undef,undef,undef,undef,undef,undef,undef,undef],defers:=[]} Z:=by
  intro v9 bb bc bd be bf bg bh bi bj bk bl bm b Z HJ m a1 T a5
  refine aK1 _ _ ?_
  clear aK2 aK1
  go_wp2_with fail
  have aB:=ze ((ud H).later (ud a1))
  obtain⟨-,-,-,-,-,-,-,z7,-⟩:=(ud aB).cells
  obtain⟨z0,-⟩:=zc (ud T)
  obtain⟨bX,bY,bZ,-⟩:=zc (ud a5)
  have b5:s<Z.1.size:=(ud aB).lt
  have af:w.1.size<Z.1.size:=zd (ud T)
  have a7:d.1.size<Z.1.size:=zd (ud a5)
  have bp:=HJ Z (P _ _)
  have bo:=HJ Z.drew (P _ _).drew
  clear HJ
  go_region_held3 (fun w'=>w'.cell? ⟨w.1.size,0,Q⟩=E (.pointer (E ⟨s,0,Q⟩))/\w'.cell? ⟨s,7,Q⟩=E (.map (E lb))/\w'.cell? ⟨d.1.size,0,Q⟩=E (I O (-1))/\w'.cell? ⟨d.1.size,1,Q⟩=E (I O se)/\w'.cell? ⟨d.1.size,2,Q⟩=E (I O we)) (go_keep) (first
   |(go_at_call 141;(first|refine(ud bp).mono ?_|refine(ud bo).mono ?_);rintro e J ⟨rfl,N⟩;have C:Below Z.1.size Z J:=⟨N.os,N.tape,N.output,N.size,N.block⟩;clear N;have j0:=(C.cell (p:=⟨w.1.size,0,Q⟩) af).trans z0;have j7:=(C.cell (p:=⟨s,7,Q⟩) b5).trans z7;have bU:=(C.cell (p:=⟨d.1.size,0,Q⟩) a7).trans bX;have bV:=(C.cell (p:=⟨d.1.size,1,Q⟩) a7).trans bY;have bW:=(C.cell (p:=⟨d.1.size,2,Q⟩) a7).trans bZ;obtain⟨o,a2,R,j,b1⟩:=Z6 ((ud aB).later C) ad (ud a6) ⟨1,b⟩;dsimp only at a2;have a3:=C.size;obtain⟨U,hU⟩:∃U,setBlock J lb o=U:=⟨_,rfl⟩;rw[hU]at a2 R j;have u0:=(zr (i:=0) j ar (S af a3)).trans j0;have u7:=(zr (i:=7) j au (S b5 a3)).trans j7;have cc:=(zr (i:=0) j ac (S a7 a3)).trans bU;have cd:=(zr (i:=1) j ac (S a7 a3)).trans bV;have ce:=(zr (i:=2) j ac (S a7 a3)).trans bW;have aa:=ze R;have bt:=ze ((j.block w.1.size (S af a3) ar).trans ((C.block w.1.size af).trans (ud T)));have aM:=S (S af a3) j.size;have aR:=ze ((zk.of_below (f:=fun k=>k=lb) ((ud a1).trans (C.mono (ud a1).size))).trans j (fun _ _ h=>h));clear R j C hU b1))
  go_wp2_with fail
  refine(ud (bn U)).mono ?_
  rintro e w2 ⟨rfl,rfl⟩
  go_wp2_with fail
  rw[ud m]at aa
  obtain⟨aV,ae,bS⟩:=QR (ud aa).hd se tm
  have c6:=(ud aR).size
  have aZ:=(ae.block w.1.size (by have:=zd (ud T);have:=aM;omega)).trans (ud bt)
  have a9:=(ud aa).later ae
  have ab:=(ud aR).trans (zk.of_below (f:=fun k=>k=lb) ae) (fun _ _ h=>h)
  obtain⟨W0,c8⟩:∃W0,QQ U s se tm=W0:=⟨_,rfl⟩
  rw[c8]at aV ae bS aZ a9 ab ⊢
  have aL:=ab.size
  have c7:=ae.size
  have aQ:Hid (OwnFrom W0.1.size (fun(M:List WSg) (W:World)=>W.1[w.1.size]?=E (.cells #[.pointer (E ⟨s,0,Q⟩)] 81 (0,0))/\xJ W s c tv lb gb Gl (yA Gl (xS c L ⟨se,tm,val⟩) M)/\zk (fun k=>k=lb) w W)):=fun s' A B row hs hg hr=>by
   have aH:zk (fun k=>W0.1.size<=k) A B:=⟨hg.os,hg.tape,hg.output,hg.size,fun k hk hn=>hg.block k hk (fun e=>hn (hr k e.symm).1)⟩
   exact⟨zG hs.1 hg (fun r e=>(hr r e).2),hs.2.1.kept aH (fun k hk=>by have:=ud a4 k hk;omega),hs.2.2.trans aH (fun i hi h=>by omega)⟩
  refine(wpIn_wide (n:=7)).1 ?_
  refine wpIn_rangeFunc_ownH (F:=Fence.wide) (n:=7) rfl (by omega) (gf:=204) (lb:=#[.pointer (E ⟨U.1.size,0,Q⟩),.pointer (E ⟨U.1.size+1,0,Q⟩),.pointer (E ⟨U.1.size+2,0,Q⟩)]) rfl trivial XX
   (QS 6 (by omega) U.1.size s c hc tv lb gb se tm aw ag (fun A B=>zk (fun k=>k=lb\/W0.1.size<=k) A B) (fun A B c3 c5=>zdH c5 c3 (by omega) (by omega) (fun k hk=>by have:=ud a4 k hk;omega) (ud bs)) W0 aV)
   (fun h k=>h.trans k (fun _ _ h=>h)) (fun W l o o' hl h _ _=>(zk.refl _ _).grown (grownBy_putObj' W l o') (fun k e _=>by cases e;exact .inr hl)) (P _ _) (fun _=>rfl)
   (fun(M:List WSg) W=>W.1[w.1.size]?=E (.cells #[.pointer (E ⟨s,0,Q⟩)] 81 (0,0))/\xJ W s c tv lb gb Gl (yA Gl (xS c L ⟨se,tm,val⟩) M)/\zk (fun k=>k=lb) w W)
   (fun _ _ _=>False) (ud aQ) (fun _ _ _ _ _ hs _ _=>hs)
   ⟨aZ,a9,ab⟩
   (fun x a' W=>∃Bx,W.1[Bx]?=E (.cells #[I O x.1.t,I O x.1.se,I O x.1.we] 137 (0,0))/\a'={tmps:=#[.pointer (E ⟨s,0,Q⟩),I O se,I O tm,I G val,.pointer (E ⟨w.1.size,0,Q⟩),undef,undef,undef,.pointer (E ⟨d.1.size,0,Q⟩),v9,bb,bc,.pointer (E ⟨Bx,0,Q⟩),.pointer (E ⟨s,0,Q⟩),I O se,I O tm,.agg #[I O (-1),I O se,I O we],I G val,I O val,I G val,I G val,.agg #[I O 1,I O val,I G val,I G val],.slice (E ⟨d.1.size+1,0,Q⟩) 1 1,bd,.pointer (E ⟨s,0,Q⟩),.pointer (E ⟨s,0,Q⟩),.pointer (E ⟨s,7,Q⟩),.map (E lb),.agg #[I O (-1),I O se,I O we],be,bf,bg,bh,bi,bj,bk,bl,bm,.pointer (E ⟨s,0,Q⟩),.pointer (E ⟨s,0,Q⟩),.pointer (E ⟨s,7,Q⟩),.map (E lb),.agg #[I O (-1),I O se,I O we],v9,.agg #[I O b.cnt,I O b.sum,I G b.mn,I G b.mx],.agg #[I O 1,I O b.cnt,I O b.sum,I G b.mn,I G b.mx],.pointer (E ⟨s,0,Q⟩),I O se,I O tm,.func (.func 204) #[] #[.pointer (E ⟨U.1.size,0,Q⟩),.pointer (E ⟨U.1.size+1,0,Q⟩),.pointer (E ⟨U.1.size+2,0,Q⟩)],.agg #[I O x.1.t,I O x.1.se,I O x.1.we],undef,undef,undef,undef,undef,undef,undef,undef,undef],defers:=[]})
   (fun x a' s' A B row hs hg hr=>by
    obtain⟨Bx,h2,h3⟩:=hs
    exact⟨Bx,zG h2 hg (fun r e=>(hr r e).2),h3⟩) ?assign ?body ?done ?stop
  case assign=>
   rintro l M x W K ⟨i1,i2,i3⟩ hK
   have HK:=ze hK
   have I1:=ze i1
   have I2:=ze i2
   have I3:=ze i3
   clear hK i1 i2 i3
   gi_wp2
   exact ud HK _ _ ((KeepsOthers.alloc _ _).from _) ((zk.refl _ _).alloc _) ⟨(Below.heap_alloc _ _ _ (zd (ud I1))).trans (ud I1),(ud I2).later ((P _ _).alloc (Nat.le_refl _) _),(ud I3).alloc _⟩ ⟨W.1.size,zo _ _,rfl⟩
  case body=>
   rintro l M x a' W hl ⟨r,hr⟩ ⟨i1,i2,i3⟩ ⟨Bx,hx,rfl⟩ bE
   rename_i hhl
   clear hhl a2 aS aO bq aU aj a6 b6 b7 aA ai aP bR ca b2 aY aE ak aT Y0 Y1 YZ z br bu ad ar ac au bn a4 bs m a1 T a5 aB z7 z0 bX bY bZ b5 af a7 bp bo j0 j7 bU bV bW a3 u0 u7 cc cd ce aa bt aM aR c6 ab a9 aZ bS ae aV c7 aQ bM bL bF hl hr
   have aC:=zd hx
   have b3:=zd i1
   have bO:=i2.lt
   have aJ:(yA Gl (xS c L ⟨se,tm,val⟩) M).length<maxLen:=by
    have h1:=zat Gl (xS c L ⟨se,tm,val⟩) M
    have h2:(xS c L ⟨se,tm,val⟩).length<=L.length+1:=Vx _ _ _
    have h3:=hc.n4
    simp only[maxLen];omega
   have aF:=J3 Gl (xS c L ⟨se,tm,val⟩) M x
   generalize yA Gl (xS c L ⟨se,tm,val⟩) M=Lp at*
   obtain⟨c4,-⟩:=zc i1
   obtain⟨-,-,-,-,-,-,-,m7,-⟩:=i2.cells
   obtain⟨x0,x1,x2,-⟩:=zc hx
   have HM:=ze (Qb i2 x.1 x.2)
   have I1:=ze i1
   have I2:=ze i2
   have I3:=ze i3
   have cj:Tryz.prog.follows .mixedOrders=true:=by kernel_rfl
   have ah:=ze aJ
   clear i1 i2 i3 hx aJ
   by_cases hm:(stG Gl Lp x.1).st=0
   ·have hb:((stG Gl Lp x.1).st==0)=true:=by simp[hm]
    rw[hb]at HM
    have az:=ze (aF.trans (show Qt Gl Lp x=yi Lp x.1 ⟨2,qP⟩ by simp[Qt,hm]))
    clear aF hb hm
    gi_wp2_with (first|(refine⟨trivial,?_⟩;gi_at_call 167;refine(CallsIn.inRound l (callsIn_wide.2 (ud HM))).mono ?_;rintro e w' ⟨rfl,q⟩;have d4:=(q.cell (p:=⟨w.1.size,0,Q⟩) b3).trans c4;have d7:=(q.cell (p:=⟨s,7,Q⟩) bO).trans m7;have y0:=(q.cell (p:=⟨Bx,0,Q⟩) aC).trans x0;have y1:=(q.cell (p:=⟨Bx,1,Q⟩) aC).trans x1;have y2:=(q.cell (p:=⟨Bx,2,Q⟩) aC).trans x2;obtain⟨o,a2,R,j,b1⟩:=Z6 ((ud I2).later q) (ud ah) x.2 ⟨2,qP⟩;obtain⟨o2,b4,ax,aI,bG⟩:=Z6 ((ud I2).later q.drew) (ud ah) x.2 ⟨2,qP⟩;dsimp only[qP]at a2 b4;have HT:=ze R;have c2:=ze ax;have HP:=ze j;have c1:=ze aI;have a0:=ze q;clear R ax j aI b1 bG q)|gi_in)
    clear HM I2 ah c4 m7 x0 x1 x2 aC b3 bO bE
    gi_region_o
    all_goals gi_wp2
    all_goals(try go_bits)
    all_goals first|exact J5 ⟨aq,aL⟩ (ud az) (ud I1) (ud I3) (ud a0) (ud HT) (ud HP)|exact J5 ⟨aq,aL⟩ (ud az) (ud I1) (ud I3) (ud a0).drew (ud c2) (ud c1)
   ·have hb:((stG Gl Lp x.1).st==0)=false:=by simp[hm]
    rw[hb]at HM
    have az:=ze (aF.trans (show Qt Gl Lp x=Lp by simp[Qt,hm]))
    clear aF hb hm
    gi_wp2_with (first|(refine⟨trivial,?_⟩;gi_at_call 167;refine(CallsIn.inRound l (callsIn_wide.2 (ud HM))).mono ?_;rintro e w' ⟨rfl,q⟩;have a0:=ze q;clear q)|gi_in)
    refine⟨(qN (ud a0)).from _,zk.of_below (ud a0),((ud a0).block _ b3).trans (ud I1),?_,qS (ud I3) (ud a0)⟩
    rw[ud az];exact(ud I2).later (ud a0)
  case done=>
   rintro D xs W hD hS hi hK
   subst hS
   have HI:=ze hi
   have HK:=ze hK
   clear hi hK
   gi_wp2
   have bw:=(ud aQ).putObj (.deferred Q) (ud HI) hD (ud HK) rfl
   refine⟨by simp,.inl ⟨_,_,rfl,run_takeDeferred (ud HK),?_⟩⟩
   refine⟨_,results_none rfl _ _ _,rfl,?_,bw.2.2⟩
   have e1:=XV hc (val:=val) aw ag (zcs (s:=xq c ⟨se,tm,val⟩) (v:=⟨1,qD val ((kV L (xq c ⟨se,tm,val⟩)).map (·.cl))⟩) bM (by simp)) c.n (Nat.le_refl _)
   have e2:XU (xS c L ⟨se,tm,val⟩) ((qK c se tm c.n).map zeh)=kJ c L ⟨se,tm,val⟩:=e1
   rw[<-K5 Gl _ _ (fun x hx=>by obtain⟨y,hy,rfl⟩:=List.mem_map.1 hx;obtain⟨k,hk,rfl⟩:=List.mem_map.1 hy;have bx:k<c.n:=(by simpa using hk);rw[Xr (Zb hc aw ag bx)];exact bF k bx)]at e2
   rw[<-e2];exact bw.2.1
  case stop=>
   rintro D c M W _ _ h _
   exact h.elim
 clear aK1
 cases ok with
 |false=>
  obtain⟨b,a8⟩:∃b,xQ [kh val]=b:=⟨_,rfl⟩
  have m:=ze (zjL (ud aj) ⟨b6,b7⟩ (ud ai))
  rw[a8]at m
  have am:=((ud z).block (d.1.size+1) aE).trans (ud Y1)
  have al:CAt Y (d.1.size+1) [kh val]:=CAt.of_owns (base:=0) (cap:=1) (e:=114) (zce (xs:=jD (kh val)) am rfl (by simp) (by simp[maxLen]) (Nat.zero_le _))
  have bJ:d.1.size+1<Y.1.size:=S aE (ud z).size
  have HJ:∀V,Below Y.1.size Y V->Hid (Calls Tryz.prog 141 #[.slice (E ⟨d.1.size+1,0,Q⟩) 1 1] V fun e w'=>e=.returned (.agg #[I O b.cnt,I O b.sum,I G b.mn,I G b.mx])/\Below V.1.size V w'):=fun V an=>by
   have:=Vj (E ⟨d.1.size+1,0,Q⟩) (d.1.size+1) 1 [kh val] (fun _=>rfl) (by simp) V (S bJ an.size) (al.below an bJ)
   rw[a8]at this;exact this
  have a1:=ze ((ud ak).trans ((ud z).mono (ud ak).size))
  have T:=ze (((ud z).block _ b2).trans (ud aT))
  have a5:=ze (((ud z).block _ aY).trans (ud Y0))
  clear am al a8
  go_wp2_with fail
  exact aN _ _ _ _ _ _ _ _ _ _ _ _ _ b Y HJ m a1 T a5
 |true=>
  obtain⟨-,o1,o2,o3,o4,-⟩:=zc (ud br)
  have am:=((ud z).block (d.1.size+1) aE).trans (ud Y1)
  have c0:=ze (zce (base:=w.1.size) (xs:=[kh val].flatMap jD) (n:=1) (size:=4) am rfl (by decide) (by simp[maxLen]) (by omega))
  have cg:X.1.size<Y.1.size:=by rw[ud bu];omega
  have ch:w.1.size<=Y.1.size:=by omega
  clear am
  go_wp2_with(first|(at_builtin;refine zga rfl _ _ rfl w.1.size (.slice (E ⟨d.1.size+1,0,Q⟩) 1 1) [kh val] a.cl rfl ((ud c0).alloc _) Y.1.size rfl (zo _ _) ?hll ?hbb ?_;(case hll=>simp);(case hbb=>(rw[zF];omega));intro g cap Z aK ap bD;have HG:=ze ap;have HO:=ze aK;clear ap aK)|go_in)
  obtain⟨b,a8⟩:∃b,xQ [kh val,a.cl]=b:=⟨_,rfl⟩
  have m:=ze (zjM (ud aj) ⟨b6,b7⟩ (ud ai) (ud aA) bL)
  rw[a8]at m
  have al:CAt Z g [kh val,a.cl]:=CAt.of_owns (base:=w.1.size) (cap:=cap) (e:=114) (ud HO)
  have HJ:∀V,Below Z.1.size Z V->Hid (Calls Tryz.prog 141 #[.slice (E ⟨g,0,Q⟩) 2 cap] V fun e w'=>e=.returned (.agg #[I O b.cnt,I O b.sum,I G b.mn,I G b.mx])/\Below V.1.size V w'):=fun V an=>by
   have:=Vj (E ⟨g,0,Q⟩) g cap [kh val,a.cl] (fun _=>rfl) (by simp) V (S bD an.size) (al.below an bD)
   rw[a8]at this;exact this
  have b9:=(ud ak).trans ((ud z).mono (ud ak).size)
  have ao:=(ud HG)
  have av:(Value.slice (E ⟨d.1.size+1,0,Q⟩) 1 1).ownBlock=E (d.1.size+1):=rfl
  rw[av]at ao
  have b8:=b9.alloc b9.size (.cells #[I O a.cl.cnt,I O a.cl.sum,I G a.cl.mn,I G a.cl.mx] 114)
  have a1:=ze (b8.grown ao b8.size (fun k e=>by cases e;omega))
  have cb:=zF Y (.cells #[I O a.cl.cnt,I O a.cl.sum,I G a.cl.mn,I G a.cl.mx] 114)
  have bI:=((ud z).block _ b2).trans (ud aT)
  have bz:=((ud z).block _ aY).trans (ud Y0)
  have T:=ze ((ao.block w.1.size (by omega) (by simp;omega)).trans ((Below.heap_alloc _ _ _ (by omega)).trans bI))
  have a5:=ze ((ao.block d.1.size (by omega) (by simp)).trans ((Below.heap_alloc _ _ _ (by omega)).trans bz))
  clear al a8 b9 ao av b8 cb bI bz o1 o2 o3 o4
  exact aN _ _ _ _ _ _ _ _ _ _ _ _ _ b Z HJ m a1 T a5
end Go.Proofs.YtpbimdkclnekeaaGreat
