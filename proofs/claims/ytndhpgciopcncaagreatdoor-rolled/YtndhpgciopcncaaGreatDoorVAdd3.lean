import Derived.Test.YtndhpgciopcncaaGreatDoorVJn2
open Go.Value renaming int → I
open Go.IntKind renaming i64 → O
open Option renaming none → E
open Option renaming some → U
open Go.IntKind renaming i32 → S
open Nat renaming le_refl → G
open Go.RowKit renaming Below → P
open Go.RowKit.Below renaming refl → R
open Nat renaming lt_of_lt_of_le → M
set_option linter.unusedVariables false
set_option maxRecDepth 100000
set_option maxHeartbeats 8000000
open Go.Proofs.Tryz
namespace Go.Proofs.YtndhpgciopcncaaGreatDoor
open Go.RowKit Go.Maps Go.Shelf
open Go.ChangeMaps (setBlock)
attribute [local go_sem] Oper.semAt_some
theorem Yn{w:World}{g k i j:Nat}(h:¬k=g)(v:Value):(w.setCell ⟨g,i,E⟩ v).cell? ⟨k,j,E⟩=w.cell? ⟨k,j,E⟩:=by
 simp only[World.cell?,Below.heap_setCell _ _ _ _ (show k≠(⟨g,_,E⟩:Addr).block from h)]
theorem zfX{F:Fence}{n:Nat}{W:World}{p:Array Oper}{c:List Oper}{o:Oper}{a:Act}{Q:Exit->Act->World->Prop}(u:o.guard=E)(s x:Operand)
  (H:o.op=.call {callee:=.builtin .append,args:=#[s,x],argTypes:=#[105,105]}) (base:Nat) (v:Value) (l:List SX) (f:SX) (J:a.eval s=v) (k:vy W base v l)
  (q:Nat) (K:a.eval x=.slice (U ⟨q,0,E⟩) 1 1) (r:W.1[q]?=U (.cells (xe f).toArray 148 (0,0))) (T:l.length<=1000000) (d:base<=W.1.size)
  (h:∀g cap w',vy w' base (.slice (U ⟨g,0,E⟩) (l.length+1) cap) (l++[f])->W.grownBy w' v.ownBlock->(v.ownBlock=U g\/g=W.1.size)->g<w'.1.size->wpListIn F n prog p Q c (a.put o.dst (.slice (U ⟨g,0,E⟩) (l.length+1) cap)) w'):wpListIn F n prog p Q (o::c) a W:=by
 obtain⟨L,D,w,y,z⟩:=JL
 refine wpListIn_append_own_at W u s x 105 H base 148 L (.agg #[I O 0,I O 0,I O 0,I O 0,I O 0,I O 0,I S 0,I S 0]) 8 56 underlying105 D w y z rfl (by decide) v l.length _ J k ⟨q,0,E⟩ 1 1 (xe f) K rfl (World.news_of_block (cs:=(xe f).toArray) r) (vt f) (by simp only[maxLen];omega) (by omega) d ?_
 intro V N b t A m
 obtain⟨C,i,rfl,B,j⟩:=b.form (by omega)
 exact h C i N (zer b) t (m.elim (fun e=> .inl e.symm) (fun e=> .inr (by simpa[Value.ownBlock]using e))) j
theorem zab{c:Cf}(j:c.ok){f g:Int}(a:0<=f/\f<4)(b:0<=g/\g<=100000)(h:List (Sg×Unit))(L:LV)(d:Int):∀k,k<=c.n->XY c h L ⟨f,g,d⟩ k=(((qi c f g k).map zeP).filter (fun x=>(stG h L x.1).st==0)).map (fun x=>(x.1,(⟨2,qc⟩:SV)))
 |0,_=>rfl
 |k+1,l=>by
  have i:=zab j a b h L d k (by omega)
  unfold XY at i ⊢
  dsimp only at i ⊢
  rw[yP,List.filter_append,List.map_append,List.map_append,List.filter_append,List.map_append,i]
  congr 1
  have e:=Xq (ZP j a b (show k<c.n by omega))
  rw[List.map_singleton,List.filter_cons,List.filter_cons,e]
  split
  ·simp[e]
  ·rfl
def adI(w:World)(b g N:Nat)(c:SX)(a:List WSg)(W:World):Prop:=∃v,W.1[b]?=U (.cells #[v] 105 (0,0))/\vy W w.1.size v (c::a.map (fun x=>(x.1,(⟨2,qc⟩:SV))))/\P w.1.size w W/\(∀r,v.ownBlock=U r->r=g\/N<=r)/\N<=W.1.size
theorem adI.later{w:World}{d g N:Nat}{i:SX}{a:List WSg}{W c:World}(h:adI w d g N i a W)(b:P W.1.size W c):adI w d g N i a c:=by
 obtain⟨v,e,j,f,k,l⟩:=h
 exact⟨v,(b.block _ (za e)).trans e,xm j b,f.trans (b.mono f.size),k,Nat.le_trans l b.size⟩
theorem zhT{ex:Nat->Prop}{n m g i:Nat}{W:World}{v:Value}(b:ex g)(d:g<m):KX ex n m W (W.setCell ⟨g,i,E⟩ v):=
 ⟨(zo.refl _ _).setCell (p:=⟨g,i,E⟩) (fun _=> .inl b) v,fun k o _ a c=>(KeepsOthers.setCell W ⟨g,i,E⟩ v).same k o a (Obj.not_cells_of_walk c),fun k o e _ a=>(Below.heap_setCell _ _ _ _ (show k≠g by omega)).trans a⟩
theorem zge{c:Cf}{L:LV}{b d a f:Int}(j:d/c.wt (-1)=f)(i: -2147483648<=a/\a<=2147483647)(g:(yA L ⟨-1,b,f⟩).isSome=false):((⟨-1,b,f⟩,⟨1,xz [yt a]⟩):SX)=zgY c L ⟨b,d,a⟩:=by
 subst j
 unfold zgY
 have e:xk c ⟨b,d,a⟩=⟨-1,b,d/c.wt (-1)⟩:=rfl
 rw[e]
 cases h:yA L ⟨-1,b,d/c.wt (-1)⟩with
 |none=>rw[zfI a i];rfl
 |some v=>rw[h]at g;simp at g
theorem zgf{c:Cf}{L:LV}{b d a f:Int}{i:SX}(n:d/c.wt (-1)=f)(m: -2147483648<=a/\a<=2147483647)(j:(yA L ⟨-1,b,f⟩).isSome=true)(l:stX L ⟨-1,b,f⟩=i)(g:∀p∈L,p.1.t= -1->p.2.cl.small):((⟨-1,b,f⟩,⟨1,xz [yt a,i.2.cl]⟩):SX)=zgY c L ⟨b,d,a⟩:=by
 subst n
 unfold zgY
 have e:xk c ⟨b,d,a⟩=⟨-1,b,d/c.wt (-1)⟩:=rfl
 rw[e]
 cases h:yA L ⟨-1,b,d/c.wt (-1)⟩with
 |none=>rw[h]at j;simp at j
 |some v=>
  have k:i.2=v:=by rw[<-l];unfold stX;rw[h]
  rw[k,zfJ a m v.cl (g _ (kz h) rfl)];rfl
theorem zbk{w:World}{s:Nat}{c:Cf}{tv:Value}{lb gb:Nat}{Gl:List (Sg×Unit)}{L:LV}(h:xt w s c tv lb gb Gl L)(hc:c.ok)(q tm d:Int)(b6:0<=q/\q<4)(ao:0<=tm/\tm<=100000)(bU: -2147483648<=d/\d<=2147483647)(cz:∀p∈L,p.1.t= -1->p.2.cl.small):
  Calls prog 64 #[.pointer (U ⟨s,0,E⟩),I O q,I O tm,I S d] w fun e w'=>∃v,e=.returned v/\vy w' w.1.size v (yZ c Gl L ⟨q,tm,d⟩)/\P w.1.size w w':=by
 have cO:=hc.n1
 have br:(⟨-1,q,tm/c.wt (-1)⟩:Sg).wf:=by
  obtain⟨cA,cR⟩:=hc.wt (t:= -1) (by omega) (by omega)
  have hd:0<=tm/c.wt (-1):=Int.ediv_nonneg ao.1 (by omega)
  have cM:tm/c.wt (-1)<=tm:=Int.ediv_le_self _ ao.1
  refine⟨?_,?_,?_⟩<;>unfold xg<;>simp only<;>omega
 obtain⟨Q,ar⟩:∃Q,tm/c.wt (-1)=Q:=⟨_,rfl⟩
 have cy:=h.lt
 have bz:=zd (zad h.hd hc (-1) q tm (by omega) (by omega) ao)
 rw[ar]at bz br
 have H:=zd h
 have b5:=zd ar
 have aa:=zd br
 obtain⟨bS,bT⟩:=bU
 obtain⟨b,bR⟩:∃b,stX L ⟨-1,q,Q⟩=b:=⟨_,rfl⟩
 obtain⟨ok,bP⟩:∃ok,(yA L ⟨-1,q,Q⟩).isSome=ok:=⟨_,rfl⟩
 have be:=zd bR
 have ax:=zd bP
 clear h ar br bR bP
 refine(callsIn_wide (n:=7)).1 ?_
 refine callsIn_of_wp_marks func64 rfl trivial ?_ rfl
 simp only[ntmps64,List.size_toArray,List.length_cons,List.length_nil,Nat.reduceAdd,Nat.reduceSub,Array.replicate_succ,Array.replicate_zero,List.push_toArray,List.append_toArray,List.nil_append,List.cons_append]
 refine wpIn_wide.2 ?_
 go_wp2_with fail
 refine(ud bz).mono ?_
 rintro e u ⟨rfl,bE⟩
 have b9:=zd bE
 clear bE
 go_wp2_with fail
 obtain⟨y0,y1,bG,yz⟩:=box2 u (.cells #[I O (-1),I O q,I O Q] 146) (.cells #[I O 1,I O d,I S d,I S d] 115)
 generalize((u.alloc (.cells #[I O (-1),I O q,I O Q] 146)).alloc (.cells #[I O 1,I O d,I S d,I S d] 115))=X at*
 have N:P w.1.size w X:=(ud b9).trans (bG.mono (ud b9).size)
 obtain⟨-,-,-,-,-,-,-,x7,-⟩:=((ud H).later N).cells
 obtain⟨k0,k1,k2,-⟩:=zc y0
 have cQ:s<X.1.size:=M cy N.size
 have bK:u.1.size<X.1.size:=by omega
 have bo:u.1.size+1<X.1.size:=by omega
 have g0:=jD (X:=X) (ud H).live N (ud aa)
 have g1:=jD (X:=X.drew) (ud H).live N.drew (ud aa)
 have g2:=fun o=>jD (X:=X.alloc o) (ud H).live (N.alloc N.size o) (ud aa)
 have g3:=fun o=>jD (X:=(X.alloc o).drew) (ud H).live (N.alloc N.size o).drew (ud aa)
 have g4:=fun o=>jD (X:=X.drew.alloc o) (ud H).live (N.drew.alloc N.drew.size o) (ud aa)
 rw[ud be,ud ax]at g0 g1
 simp only[ud be,ud ax]at g2 g3 g4
 have az:=zd N
 have Y0:=zd y0
 have Y1:=zd y1
 have YZ:=zd yz
 clear N y0 y1 yz bG
 go_region
 have bF:P X.1.size X ((X.alloc (.cells #[I O b.1.t,I O b.1.sr,I O b.1.wa,I O b.2.st,I O b.2.cl.cnt,I O b.2.cl.sum,I S b.2.cl.mn,I S b.2.cl.mx] 148)).drew):=((R _ _).alloc (G _) _).drew
 have bM:((X.alloc (.cells #[I O b.1.t,I O b.1.sr,I O b.1.wa,I O b.2.st,I O b.2.cl.cnt,I O b.2.cl.sum,I S b.2.cl.mn,I S b.2.cl.mx] 148)).drew).1[X.1.size]?=U (.cells #[I O b.1.t,I O b.1.sr,I O b.1.wa,I O b.2.st,I O b.2.cl.cnt,I O b.2.cl.sum,I S b.2.cl.mn,I S b.2.cl.mx] 148 (0,0)):=zk _ _
 have c0:((X.alloc (.cells #[I O b.1.t,I O b.1.sr,I O b.1.wa,I O b.2.st,I O b.2.cl.cnt,I O b.2.cl.sum,I S b.2.cl.mn,I S b.2.cl.mx] 148)).drew).1.size=X.1.size+1:=zI _ _
 generalize((X.alloc (.cells #[I O b.1.t,I O b.1.sr,I O b.1.wa,I O b.2.st,I O b.2.cl.cnt,I O b.2.cl.sum,I S b.2.cl.mn,I S b.2.cl.mx] 148)).drew)=Y at*
 have a3:=zd bF
 have ci:=zd bM
 have cp:=zd c0
 clear g0 g1 g2 g3 g4 x7 k0 k1 k2 bF bM c0
 rename_i Q1 K1 aK1 K2 aK2
 have b8:∀(a6 aF aG aH aI aJ aK aL aM aN aO aP aQ aR aS aT aU aV aW aX aY aZ b0 b1 b2:Value) (a:Cl) (Z:World),(∀Z',P Z.1.size Z Z'->Hid (Calls prog 123 #[a6] Z' fun e w'=>e=.returned (.agg #[I O a.cnt,I O a.sum,I S a.mn,I S a.mx])/\P Z'.1.size Z' w'))->Hid (((⟨-1,q,Q⟩,⟨1,a⟩):SX)=zgY c L ⟨q,tm,d⟩)->Hid (P w.1.size w Z)->Hid (Z.1[u.1.size]?=U (.cells #[I O (-1),I O q,I O Q] 146 (0,0)))->K1 {tmps:=#[.pointer (U ⟨s,0,E⟩),I O q,I O tm,I S d,undef,undef,undef,undef,.slice E 0 0,.pointer (U ⟨u.1.size,0,E⟩),a6,aF,aG,undef,undef,.pointer (U ⟨s,0,E⟩),I O q,I O tm,aH,aI,aJ,aK,aL,aM,aN,aO,aP,aQ,aR,aS,aT,aU,aV,aW,aX,aY,aZ,b0,b1,b2,undef,undef,undef,undef,undef,undef,undef,undef,undef,undef,undef,undef,undef,undef,undef,undef,undef,undef,undef],defers:=[]} Z:=by
  intro a6 aF aG aH aI aJ aK aL aM aN aO aP aQ aR aS aT aU aV aW aX aY aZ b0 b1 b2 a Z HJ V a1 a7
  refine aK1 _ _ ?_
  clear aK2 aK1
  go_wp2_with fail
  rename_i K3 aK3
  obtain⟨c6,c7,c8,-⟩:=zc (ud a7)
  have a0:u.1.size<Z.1.size:=za (ud a7)
  have ad:∀(bx g:Nat) (T:World),Hid (P w.1.size w T)->Hid (T.1[bx]?=U (.cells #[.slice (U ⟨g,0,E⟩) 1 1] 105 (0,0)))->Hid (T.1[g]?=U (.cells #[I O (-1),I O q,I O Q,I O 1,I O a.cnt,I O a.sum,I S a.mn,I S a.mx] 148 (0,0)))->Hid (w.1.size<=bx/\w.1.size<=g)->K3 {tmps:=#[.pointer (U ⟨s,0,E⟩),I O q,I O tm,I S d,undef,undef,undef,undef,.slice E 0 0,.pointer (U ⟨u.1.size,0,E⟩),a6,aF,aG,.pointer (U ⟨bx,0,E⟩),undef,.pointer (U ⟨s,0,E⟩),I O q,I O tm,aH,aI,aJ,aK,aL,aM,aN,aO,aP,aQ,aR,aS,aT,aU,aV,aW,aX,aY,aZ,b0,b1,b2,.agg #[I O (-1),I O q,I O Q],a6,.agg #[I O a.cnt,I O a.sum,I S a.mn,I S a.mx],.agg #[I O (-1),I O q,I O Q,I O 1,I O a.cnt,I O a.sum,I S a.mn,I S a.mx],.slice (U ⟨g,0,E⟩) 1 1,undef,undef,undef,undef,undef,undef,undef,undef,undef,undef,undef,undef,undef,undef],defers:=[]} T:=by
   intro bx g T ay ba HG c9
   refine aK3 _ _ ?_
   obtain⟨cu,cw⟩:=ud c9
   have ct:=za (ud ba)
   have cv:=za (ud HG)
   have bp:=(ud H).later (ud ay)
   obtain⟨bh,bj,bZ⟩:=Xx bp.hd q tm
   obtain⟨C,bg⟩:∃C,Xw T s q tm=C:=⟨_,rfl⟩
   rw[bg]at bh bj bZ
   have bb:=zd (Xv s q tm T)
   rw[bg]at bb
   have bf:=zd (Qo 183 #[.pointer (U ⟨T.1.size,0,E⟩),.pointer (U ⟨T.1.size+1,0,E⟩),.pointer (U ⟨T.1.size+2,0,E⟩)] 121 #[.pointer (U ⟨s,0,E⟩)] #[] C)
   obtain⟨bn,bl,aA,bY⟩:=box2 C (.cells #[.func (.func 183) #[] #[.pointer (U ⟨T.1.size,0,E⟩),.pointer (U ⟨T.1.size+1,0,E⟩),.pointer (U ⟨T.1.size+2,0,E⟩)]] 199) (.cells #[.func (.func 121) #[.pointer (U ⟨s,0,E⟩)] #[]] 206)
   obtain⟨X2,bC⟩:∃X2,((C.alloc (.cells #[.func (.func 183) #[] #[.pointer (U ⟨T.1.size,0,E⟩),.pointer (U ⟨T.1.size+1,0,E⟩),.pointer (U ⟨T.1.size+2,0,E⟩)]] 199)).alloc (.cells #[.func (.func 121) #[.pointer (U ⟨s,0,E⟩)] #[]] 206))=X2:=⟨_,rfl⟩
   rw[bC]at bn bl aA bY bf
   have a8:P T.1.size T X2:=bj.trans (aA.mono (by omega))
   have b7:P w.1.size w X2:=(ud ay).trans (a8.mono (ud ay).size)
   have am:=bp.later a8
   have bk:=(ud H).foot_lt
   have ak:=Ks (ex:=fun k=>k=bx\/k=g) (n:=X2.1.size) T.1.size s c hc tv lb gb q tm b6 ao X2 (bh.later aA) (fun i hi=>⟨by omega,by omega⟩) ⟨by omega,by omega⟩ (fun k hk=>by have:=bk k (.inr (.inl hk));constructor<;>omega)
   have al:=vY (fun x:WSg=>x.1) 183 #[.pointer (U ⟨T.1.size,0,E⟩),.pointer (U ⟨T.1.size+1,0,E⟩),.pointer (U ⟨T.1.size+2,0,E⟩)] ZT 121 #[.pointer (U ⟨s,0,E⟩)] #[] jE (fun x=>(stG Gl L x.1).st==0) C.1.size (C.1.size+1) X2 (G _) ⟨by omega,by omega⟩ ⟨by omega,by omega⟩ bn bl
    (fun x W ⟨m,hk⟩=>ZX (am.kx hk (fun k hh=>by have:=bk k hh;constructor<;>omega)) x.1 x.2) ak
   have bA:=zd al
   have ab:=zd b7
   have b4:=zd ((a8.block _ ct).trans (ud ba))
   have bu:=zd ((a8.block _ cv).trans (ud HG))
   have cT:T.1.size<=X2.1.size:=a8.size
   clear bp bh bj bZ bn bl aA bY a8 b7 am bk ak al bg bC ba HG
   go_wp2_with(first
    |(go_at_call 120;refine(ud bb).mono ?_;rintro e C' ⟨rfl,cr⟩;subst cr)
    |(go_at_call 124;refine(ud bf).mono ?_;rintro e ac ⟨rfl,bD⟩;subst bD))
   rename_i K4 aK4
   have cK:=(ud ab).size
   refine(wpIn_wide (n:=7)).1 ?_
   refine qv (F:=Fence.wide) (n:=7) rfl (by omega) (gf:=194) (lb:=#[.pointer (U ⟨C'.1.size,0,E⟩),.pointer (U ⟨C'.1.size+1,0,E⟩)]) rfl trivial Qn (ud bA (ac.1.size+2) (by omega)) (G _) (fun h k=>h.trans k) (fun W o o' h hc hw=>KX.putObj o' (by omega) (by omega) h hw) (R _ _) (fun _=>rfl)
    (adI w bx g ac.1.size (⟨-1,q,Q⟩,⟨1,a⟩)) (fun _ _ _=>False)
    (fun s A B cE hs hg hr=>by
     obtain⟨v,h1,h2,h3,h4,h5⟩:=hs
     exact⟨v,zr h1 hg (fun r e=>(hr r e).2),jd h2 hg (fun r e=>(hr r e).2),h3.grown hg h3.size (fun k e=>by have:=(hr k e).1;omega),h4,Nat.le_trans h5 hg.size⟩)
    (fun _ _ _ _ _ hs _ _=>hs)
    ⟨_,ud b4,Xl (xs:=[((⟨-1,q,Q⟩,⟨1,a⟩):SX)].flatMap xe) (n:=1) (size:=8) (ud bu) rfl (by decide) (by simp[maxLen]) cw,ud ab,fun r e=> .inl (by cases e;rfl),G _⟩
    (fun x a' W=>∃Bx,ac.1.size<=Bx/\W.1[Bx]?=U (.cells #[I O x.1.t,I O x.1.sr,I O x.1.wa] 146 (0,0))/\a'={tmps:=#[.pointer (U ⟨s,0,E⟩),I O q,I O tm,I S d,undef,undef,undef,undef,.slice E 0 0,.pointer (U ⟨u.1.size,0,E⟩),a6,aF,aG,.pointer (U ⟨bx,0,E⟩),.pointer (U ⟨Bx,0,E⟩),.pointer (U ⟨s,0,E⟩),I O q,I O tm,aH,aI,aJ,aK,aL,aM,aN,aO,aP,aQ,aR,aS,aT,aU,aV,aW,aX,aY,aZ,b0,b1,b2,.agg #[I O (-1),I O q,I O Q],a6,.agg #[I O a.cnt,I O a.sum,I S a.mn,I S a.mx],.agg #[I O (-1),I O q,I O Q,I O 1,I O a.cnt,I O a.sum,I S a.mn,I S a.mx],.slice (U ⟨g,0,E⟩) 1 1,.pointer (U ⟨s,0,E⟩),I O q,I O tm,.func (.func 183) #[] #[.pointer (U ⟨T.1.size,0,E⟩),.pointer (U ⟨T.1.size+1,0,E⟩),.pointer (U ⟨T.1.size+2,0,E⟩)],.pointer (U ⟨s,0,E⟩),.func (.func 121) #[.pointer (U ⟨s,0,E⟩)] #[],.func (.func 194) #[] #[.pointer (U ⟨C'.1.size,0,E⟩),.pointer (U ⟨C'.1.size+1,0,E⟩)],.agg #[I O x.1.t,I O x.1.sr,I O x.1.wa],undef,undef,undef,undef,undef,undef],defers:=[]})
    (fun x a' s A B cE hs hg hr=>by
     obtain⟨Bx,h1,h2,h3⟩:=hs
     exact⟨Bx,h1,zr h2 hg (fun r e=>(hr r e).2),h3⟩) ?assign ?body ?done ?stop
   case assign=>
    rintro l av x W K hI hK
    have HK:=zd hK
    have HI:=zd hI
    clear hK hI
    gi_wp2
    have a9:=(R W.1.size W).alloc (G _) (.cells #[I O x.1.t,I O x.1.sr,I O x.1.wa] 146)
    have cD:ac.1.size<=W.1.size:=by obtain⟨v,-,-,-,-,h5⟩:=ud HI;exact h5
    exact ud HK _ _ (zi a9) (KX.of_below a9) ((ud HI).later a9) ⟨W.1.size,cD,zk _ _,rfl⟩
   case body=>
    rintro l av x a' W hl ⟨r,hr⟩ ⟨v,i1,i2,i3,i4,i5⟩ ⟨Bx,cI,hx,rfl⟩ aD
    have an:=za i1
    have cS:=za hx
    obtain⟨c1,-⟩:=zc i1
    obtain⟨x0,x1,x2,-⟩:=zc hx
    have cP:=hc.n4
    have bO:((((⟨-1,q,Q⟩,⟨1,a⟩):SX))::av.map (fun x=>(x.1,(⟨2,qc⟩:SV)))).length<=1000000:=by rw[List.length_cons,List.length_map];omega
    obtain⟨zs,bs⟩:∃zs,(((⟨-1,q,Q⟩,⟨1,a⟩):SX))::av.map (fun x=>(x.1,(⟨2,qc⟩:SV)))=zs:=⟨_,rfl⟩
    rw[bs]at i2 bO
    have co:=zd bs
    have bv:=zd i1
    have a4:=zd i2
    have bc:=zd i3
    have bw:=zd i4
    have HX:=zd hx
    clear i1 i2 i3 i4 hx hr bs aD bA b4 bu ay bb bf ab
    gi_wp2_with (first
     |(gi_at_builtin;refine zfX rfl _ _ rfl w.1.size _ zs ((x.1,⟨2,qc⟩):SX) rfl ((ud a4).alloc _) W.1.size rfl (zk _ _) bO (by rw[zI];omega) ?_;intro g' bB w3 ai aB bW cF
       have bI:=XJ ((ud a4).alloc (.cells #[I O x.1.t,I O x.1.sr,I O x.1.wa,I O 2,I O 0,I O 0,I S 0,I S 0] 148)) aB ac.1.size
       have b3:w3.1[bx]?=U (.cells #[v] 105 (0,0)):=(aB.block bx (by rw[zI];omega) (fun e=>zu (ud bv) (ud a4) (by decide) bx e.symm rfl)).trans ((Below.heap_alloc _ _ _ an).trans (ud bv))
       obtain⟨d1,-⟩:=zc b3
       have f1:w3.frozen? ⟨bx,0,E⟩=false:=zC b3 0
       have cG:=za b3
       have cj:=zd ai
       have ca:=zd aB
       have cg:=zd bI
       have bt:=zd b3
       have cm:=zd bW
       clear ai aB bI b3 bW
       go_frame)
     |gi_in)
    have hk:=ud cg
    have hg:(W.alloc (.cells #[I O x.1.t,I O x.1.sr,I O x.1.wa,I O 2,I O 0,I O 0,I S 0,I S 0] 148)).grownBy w3 v.ownBlock:=ud ca
    have a2:=ud cj
    have hb:=ud bc
    have a9:=(R W.1.size W).alloc (G _) (.cells #[I O x.1.t,I O x.1.sr,I O x.1.wa,I O 2,I O 0,I O 0,I S 0,I S 0] 148)
    have cs:P w.1.size w w3:=(hb.alloc hb.size _).grown hg (by have:=hb.size;rw[zI];omega) (fun k e=>(World.ownsRow.lt (ud a4) k e).1)
    refine⟨((zi a9).trans hk.1).trans ((KeepsOthers.setCell w3 ⟨bx,0,E⟩ _).from _),((KX.of_below a9).trans (KX.grown hg (fun r e=>⟨?_,?_⟩))).trans (zhT (.inl rfl) (by omega)),?_⟩
    ·rcases ud bw r e with h|h
     ·exact .inl (.inr h)
     ·exact .inr h
    ·obtain⟨cH,bH⟩:=zH ((ud a4).alloc (.cells #[I O x.1.t,I O x.1.sr,I O x.1.wa,I O 2,I O 0,I O 0,I S 0,I S 0] 148)) e
     exact⟨_,_,bH⟩
    ·refine⟨_,xy (i:=0) (ud bt) _,?_,cs.setCell (p:=⟨bx,0,E⟩) cu _,fun r e=>?_,?_⟩
     ·have aE:=zg (w':=w3.setCell ⟨bx,0,E⟩ (.slice (U ⟨g',0,E⟩) (zs.length+1) bB)) a2 (zn (f:=fun k=>k=bx) (zo.refl _ _) rfl) (fun k cx e=>zu (ud bt) a2 (by decide) k cx e)
      have ez:(((⟨-1,q,Q⟩,⟨1,a⟩):SX))::(av++[x]).map (fun x=>(x.1,(⟨2,qc⟩:SV)))=zs++[((x.1,⟨2,qc⟩):SX)]:=by
       rw[List.map_append,<-List.cons_append,ud co];rfl
      rw[ez]
      unfold vy
      rw[List.length_append,List.length_singleton]at aE ⊢
      exact aE
     ·have er:r=g':=by cases e;rfl
      subst er
      rcases ud cm with h|h
      ·exact ud bw _ h
      ·right;rw[h,zI];omega
     ·have:=hg.size;rw[zI]at this;simp;omega
   case done=>
    rintro D xs W hD hS ⟨v,i1,i2,i3,i4,i5⟩ hK
    obtain⟨ys,rfl,bX⟩:=hS
    obtain⟨c1,-⟩:=zc i1
    have an:=za i1
    have a4:=zd i2
    have bc:=zd i3
    have bd:=zd hK
    have cn:=zd bX
    clear i1 i2 i3 i4 hK bX
    refine aK4 _ _ ?_
    go_wp2_with fail
    refine⟨by simp,.inl ⟨_,_,rfl,run_takeDeferred (ud bd),?_⟩⟩
    refine⟨_,results_tmp rfl _ _ _,_,rfl,?_,xi (ud bc) (G _) (by omega) (ud bd) _⟩
    have aE:=jd (ud a4) (grownBy_putObj' W D (.deferred E)) (fun r e=>by cases e;exact⟨_,ud bd,rfl⟩)
    have ez:yZ c Gl L ⟨q,tm,d⟩=(((⟨-1,q,Q⟩,⟨1,a⟩):SX))::xs.map (fun x=>(x.1,(⟨2,qc⟩:SV))):=by
     unfold yZ
     rw[<-ud V,ud cn,zab hc b6 ao Gl L d c.n (G _)]
    rw[ez]
    exact aE
   case stop=>
    rintro D c av W _ _ h _
    exact h.elim
  have cf:=HJ Z (R _ _)
  have ce:=HJ Z.drew (R _ _).drew
  have bi:P Z.1.size Z (Z.alloc (.cells #[.slice E 0 0] 105)):=(R _ _).alloc (G _) _
  have cb:=HJ (Z.alloc (.cells #[.slice E 0 0] 105)) bi
  have cc:=HJ (Z.alloc (.cells #[.slice E 0 0] 105)).drew bi.drew
  have cd:=HJ (Z.drew.alloc (.cells #[.slice E 0 0] 105)) ((R _ _).drew.alloc (G _) _)
  have c2:=zI Z (.cells #[.slice E 0 0] 105)
  have bN:=zk Z (.cells #[.slice E 0 0] 105)
  have ch:=zd bN
  have bm:¬u.1.size=Z.1.size:=by omega
  clear HJ bN bi aK3
  go_region_held3 (fun w'=>w'.cell? ⟨u.1.size,0,E⟩=U (I O (-1))/\w'.cell? ⟨u.1.size,1,E⟩=U (I O q)/\w'.cell? ⟨u.1.size,2,E⟩=U (I O Q)) (go_keep) (first
   |(go_at_call 123;(first|(with_reducible refine(ud cf).mono ?_)|(with_reducible refine(ud ce).mono ?_));rintro e J ⟨rfl,j⟩;have y:P Z.1.size Z J:=⟨j.os,j.tape,j.output,j.size,j.block⟩;have c3:=(y.cell (p:=⟨u.1.size,0,E⟩) a0).trans c6;have c4:=(y.cell (p:=⟨u.1.size,1,E⟩) a0).trans c7;have c5:=(y.cell (p:=⟨u.1.size,2,E⟩) a0).trans c8;have bJ:=M a0 y.size;have aw:=zd y;clear y j)
   |(go_at_call 123;(first|(with_reducible refine(ud cb).mono ?_)|(with_reducible refine(ud cc).mono ?_)|(with_reducible refine(ud cd).mono ?_));rintro e J ⟨rfl,j⟩;have y:P (Z.1.size+1) (Z.alloc (.cells #[.slice E 0 0] 105)) J:=⟨j.os,j.tape,j.output,j.size,fun k hk=>j.block k (by first|exact Nat.lt_of_lt_of_eq hk c2.symm|exact hk)⟩;have c3:=(y.cell (p:=⟨u.1.size,0,E⟩) (Nat.lt_succ_of_lt a0)).trans (((R Z.1.size Z).alloc (G _) (.cells #[.slice E 0 0] 105)).cell (p:=⟨u.1.size,0,E⟩) a0|>.trans c6);have c4:=(y.cell (p:=⟨u.1.size,1,E⟩) (Nat.lt_succ_of_lt a0)).trans (((R Z.1.size Z).alloc (G _) (.cells #[.slice E 0 0] 105)).cell (p:=⟨u.1.size,1,E⟩) a0|>.trans c7);have c5:=(y.cell (p:=⟨u.1.size,2,E⟩) (Nat.lt_succ_of_lt a0)).trans (((R Z.1.size Z).alloc (G _) (.cells #[.slice E 0 0] 105)).cell (p:=⟨u.1.size,2,E⟩) a0|>.trans c8);have au:=(y.block Z.1.size (Nat.lt_succ_self _)).trans (ud ch);obtain⟨jc,-⟩:=zc au;have jf:=zC au 0;have bJ:=M (Nat.lt_succ_of_lt a0) (Nat.le_trans (Nat.le_of_eq c2.symm) y.size);have cC:=za au;have cU:(J.setCell ⟨Z.1.size,0,E⟩ (.slice (U ⟨J.1.size,0,E⟩) 1 1)).cell? ⟨u.1.size,0,E⟩=U (I O (-1)):=(Yn bm _).trans c3;have cV:(J.setCell ⟨Z.1.size,0,E⟩ (.slice (U ⟨J.1.size,0,E⟩) 1 1)).cell? ⟨u.1.size,1,E⟩=U (I O q):=(Yn bm _).trans c4;have cW:(J.setCell ⟨Z.1.size,0,E⟩ (.slice (U ⟨J.1.size,0,E⟩) 1 1)).cell? ⟨u.1.size,2,E⟩=U (I O Q):=(Yn bm _).trans c5;have cN:u.1.size<(J.setCell ⟨Z.1.size,0,E⟩ (.slice (U ⟨J.1.size,0,E⟩) 1 1)).1.size:=(by simpa using bJ);have aw:=zd y;have cq:=zd au;clear y j au))
  ·have z:P w.1.size w J:=(ud a1).trans ((ud aw).mono (ud a1).size)
   obtain⟨e1,e2,e3,-⟩:=box2 J (.cells #[I O (-1),I O q,I O Q,I O 1,I O a.cnt,I O a.sum,I S a.mn,I S a.mx] 148) (.cells #[.slice (U ⟨J.1.size,0,E⟩) 1 1] 105)
   exact ad _ _ _ (z.trans (e3.mono z.size)) e2 e1 ⟨by have:=z.size;omega,z.size⟩
  ·have z:P w.1.size w J:=(ud a1).trans ((ud aw).mono (ud a1).size)
   obtain⟨e1,e2,e3,-⟩:=box2 J (.cells #[.slice (U ⟨J.1.size+1,0,E⟩) 1 1] 105) (.cells #[I O (-1),I O q,I O Q,I O 1,I O a.cnt,I O a.sum,I S a.mn,I S a.mx] 148)
   exact ad _ _ _ (z.trans (e3.mono z.size)) e1 e2 ⟨z.size,by have:=z.size;omega⟩
  ·have aq:=ud a1
   have ap:P w.1.size w (Z.alloc (.cells #[.slice E 0 0] 105)):=aq.alloc aq.size _
   have z:P w.1.size w J:=ap.trans ((ud aw).mono (by have:=aq.size;omega))
   have bV:=z.setCell (p:=⟨Z.1.size,0,E⟩) aq.size (.slice (U ⟨J.1.size,0,E⟩) 1 1)
   have an:(J.setCell ⟨Z.1.size,0,E⟩ (.slice (U ⟨J.1.size,0,E⟩) 1 1)).1.size=J.1.size:=by simp
   have e2:=zk (J.setCell ⟨Z.1.size,0,E⟩ (.slice (U ⟨J.1.size,0,E⟩) 1 1)) (.cells #[I O (-1),I O q,I O Q,I O 1,I O a.cnt,I O a.sum,I S a.mn,I S a.mx] 148)
   rw[an]at e2
   exact ad _ _ _ (bV.alloc bV.size _) ((Below.heap_alloc _ _ _ (by rw[an];exact cC)).trans (xy (i:=0) (ud cq) _)) e2 ⟨aq.size,by have:=z.size;omega⟩
 clear aK1
 cases ok with
 |false=>
  obtain⟨a,a5⟩:∃a,xz [yt d]=a:=⟨_,rfl⟩
  have V:=zd (zge (ud b5) ⟨bS,bT⟩ (ud ax))
  rw[a5]at V
  have af:=((ud a3).block (u.1.size+1) bo).trans (ud Y1)
  have ae:CAt Y (u.1.size+1) [yt d]:=CAt.of_owns (base:=0) (cap:=1) (e:=115) (Xl (xs:=vK (yt d)) af rfl (by simp) (by simp[maxLen]) (Nat.zero_le _))
  have bQ:u.1.size+1<Y.1.size:=M bo (ud a3).size
  have HJ:∀Z',P Y.1.size Y Z'->Hid (Calls prog 123 #[.slice (U ⟨u.1.size+1,0,E⟩) 1 1] Z' fun e w'=>e=.returned (.agg #[I O a.cnt,I O a.sum,I S a.mn,I S a.mx])/\P Z'.1.size Z' w'):=fun Z' ag=>by
   have:=Yy (U ⟨u.1.size+1,0,E⟩) (u.1.size+1) 1 [yt d] (fun _=>rfl) (by simp) Z' (M bQ ag.size) (ae.below ag bQ)
   rw[a5]at this;exact this
  have a1:=zd ((ud az).trans ((ud a3).mono (ud az).size))
  have a7:=zd (((ud a3).block _ bK).trans (ud Y0))
  clear af ae a5
  go_wp2_with fail
  exact b8 _ _ _ _ _ _ _ _ _ _ _ _ _ _ _ _ _ _ _ _ _ _ _ _ _ a Y HJ V a1 a7
 |true=>
  obtain⟨-,-,-,-,o1,o2,o3,o4,-⟩:=zc (ud ci)
  have cA:=(ud b9).size
  have af:=((ud a3).block (u.1.size+1) bo).trans (ud Y1)
  have ck:=zd (Xl (base:=w.1.size) (xs:=[yt d].flatMap vK) (n:=1) (size:=4) af rfl (by decide) (by simp[maxLen]) (by omega))
  have cJ:X.1.size<Y.1.size:=by rw[ud cp];omega
  have cL:w.1.size<=Y.1.size:=by omega
  clear af
  go_wp2_with(first|(at_builtin;refine zdK rfl _ _ rfl w.1.size (.slice (U ⟨u.1.size+1,0,E⟩) 1 1) [yt d] b.2.cl rfl ((ud ck).alloc _) Y.1.size rfl (zk _ _) ?hll ?hbb ?_;(case hll=>simp);(case hbb=>(rw[zI];omega));intro g cap Z a2 ah aD;have HG:=zd ah;have HO:=zd a2;clear ah a2)|go_in)
  obtain⟨a,a5⟩:∃a,xz [yt d,b.2.cl]=a:=⟨_,rfl⟩
  have V:=zd (zgf (ud b5) ⟨bS,bT⟩ (ud ax) (ud be) cz)
  rw[a5]at V
  have ae:CAt Z g [yt d,b.2.cl]:=CAt.of_owns (base:=w.1.size) (cap:=cap) (e:=115) (ud HO)
  have HJ:∀Z',P Z.1.size Z Z'->Hid (Calls prog 123 #[.slice (U ⟨g,0,E⟩) 2 cap] Z' fun e w'=>e=.returned (.agg #[I O a.cnt,I O a.sum,I S a.mn,I S a.mx])/\P Z'.1.size Z' w'):=fun Z' ag=>by
   have:=Yy (U ⟨g,0,E⟩) g cap [yt d,b.2.cl] (fun _=>rfl) (by simp) Z' (M aD ag.size) (ae.below ag aD)
   rw[a5]at this;exact this
  have bq:=(ud az).trans ((ud a3).mono (ud az).size)
  have aC:=(ud HG)
  have aj:(Value.slice (U ⟨u.1.size+1,0,E⟩) 1 1).ownBlock=U (u.1.size+1):=rfl
  rw[aj]at aC
  have ap:=bq.alloc bq.size (.cells #[I O b.2.cl.cnt,I O b.2.cl.sum,I S b.2.cl.mn,I S b.2.cl.mx] 115)
  have a1:=zd (ap.grown aC ap.size (fun k e=>by cases e;omega))
  have cB:=zI Y (.cells #[I O b.2.cl.cnt,I O b.2.cl.sum,I S b.2.cl.mn,I S b.2.cl.mx] 115)
  have bL:=((ud a3).block _ bK).trans (ud Y0)
  have a7:=zd ((aC.block u.1.size (by omega) (by simp)).trans ((Below.heap_alloc _ _ _ (by omega)).trans bL))
  clear ae a5 bq aC aj ap cB bL o1 o2 o3 o4
  exact b8 _ _ _ _ _ _ _ _ _ _ _ _ _ _ _ _ _ _ _ _ _ _ _ _ _ a Z HJ V a1 a7
end Go.Proofs.YtndhpgciopcncaaGreatDoor
