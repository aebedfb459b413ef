import Derived.Test.YtndhpgciopcncaaGreatDoorYWk6
open Go.Value renaming int → I
open Go.IntKind renaming i64 → O
open Option renaming none → E
open Option renaming some → U
open Go.IntKind renaming i32 → S
open Nat renaming le_refl → G
open Go.RowKit renaming Below → P
open Go.RowKit.Below renaming refl → R
open Nat renaming lt_of_lt_of_le → M
set_option linter.unusedVariables false
set_option maxRecDepth 100000
set_option maxHeartbeats 8000000
open Go.Proofs.Tryz
namespace Go.Proofs.YtndhpgciopcncaaGreatDoor
open Go.RowKit Go.Maps Go.Shelf
open Go.ChangeMaps (setBlock)
attribute [local go_sem] Oper.semAt_some
theorem Ky{w:World}{g k i j:Nat}(h:¬k=g)(v:Value):(w.setCell ⟨g,i,E⟩ v).cell? ⟨k,j,E⟩=w.cell? ⟨k,j,E⟩:=by
 simp only[World.cell?,Below.heap_setCell _ _ _ _ (show k≠(⟨g,_,E⟩:Addr).block from h)]
theorem zgX{F:Fence}{n:Nat}{W:World}{ops:Array Oper}{rest:List Oper}{o:Oper}{a:Act}{Q:Exit->Act->World->Prop}(q:o.guard=E)(s x:Operand)
  (B:o.op=.call {callee:=.builtin .append,args:=#[s,x],argTypes:=#[105,105]}) (base:Nat) (v:Value) (l:List SX) (f:SX) (C:a.eval s=v) (i:jG W base v l)
  (k:Nat) (D:a.eval x=.slice (U ⟨k,0,E⟩) 1 1) (m:W.1[k]?=U (.cells (xh f).toArray 148 (0,0))) (J:l.length<=1000000) (hbase:base<=W.1.size)
  (h:∀g cap w',jG w' base (.slice (U ⟨g,0,E⟩) (l.length+1) cap) (l++[f])->W.grownBy w' v.ownBlock->(v.ownBlock=U g\/g=W.1.size)->g<w'.1.size->wpListIn F n prog ops Q rest (a.put o.dst (.slice (U ⟨g,0,E⟩) (l.length+1) cap)) w'):wpListIn F n prog ops Q (o::rest) a W:=by
 obtain⟨i0,A,r,t,u⟩:=zba
 refine wpListIn_append_own_at W q s x 105 B base 148 i0 (.agg #[I O 0,I O 0,I O 0,I O 0,I O 0,I O 0,I S 0,I S 0]) 8 56 underlying105 A r t u rfl (by decide) v l.length _ C i ⟨k,0,E⟩ 1 1 (xh f) D rfl (World.news_of_block (cs:=(xh f).toArray) m) (vC f) (by simp only[maxLen];omega) (by omega) hbase ?_
 intro K H b p w j
 obtain⟨z,c,rfl,y,d⟩:=b.form (by omega)
 exact h z c H (zfD b) p (j.elim (fun e=> .inl e.symm) (fun e=> .inr (by simpa[Value.ownBlock]using e))) d
theorem zbC{c:Cf}(f:c.ok){se tm:Int}(a:0<=se/\se<4)(b:0<=tm/\tm<=100000)(Gl:List (Sg×Unit))(L:LV)(val:Int):∀k,k<=c.n->QP c Gl L ⟨se,tm,val⟩ k=(((qg c se tm k).map zfW).filter (fun x=>(stG Gl L x.1).st==0)).map (fun x=>(x.1,(⟨2,qC⟩:SV)))
 |0,_=>rfl
 |k+1,g=>by
  have d:=zbC f a b Gl L val k (by omega)
  unfold QP at d ⊢
  dsimp only at d ⊢
  rw[yY,List.filter_append,List.map_append,List.map_append,List.filter_append,List.map_append,d]
  congr 1
  have e:=Qc (Xn f a b (show k<c.n by omega))
  rw[List.map_singleton,List.filter_cons,List.filter_cons,e]
  split
  ·simp[e]
  ·rfl
def adI(w:World)(b g N:Nat)(c:SX)(a:List WSg)(W:World):Prop:=∃v,W.1[b]?=U (.cells #[v] 105 (0,0))/\jG W w.1.size v (c::a.map (fun x=>(x.1,(⟨2,qC⟩:SV))))/\P w.1.size w W/\(∀r,v.ownBlock=U r->r=g\/N<=r)/\N<=W.1.size
theorem adI.later{w:World}{d g N:Nat}{i:SX}{a:List WSg}{W c:World}(h:adI w d g N i a W)(b:P W.1.size W c):adI w d g N i a c:=by
 obtain⟨v,e,j,f,k,l⟩:=h
 exact⟨v,(b.block _ (zb e)).trans e,zM j b,f.trans (b.mono f.size),k,Nat.le_trans l b.size⟩
theorem ziy{ex:Nat->Prop}{n m g i:Nat}{W:World}{v:Value}(b:ex g)(d:g<m):KX ex n m W (W.setCell ⟨g,i,E⟩ v):=
 ⟨(zk.refl _ _).setCell (p:=⟨g,i,E⟩) (fun _=> .inl b) v,fun k o _ a c=>(KeepsOthers.setCell W ⟨g,i,E⟩ v).same k o a (Obj.not_cells_of_walk c),fun k o e _ a=>(Below.heap_setCell _ _ _ _ (show k≠g by omega)).trans a⟩
theorem zhd{c:Cf}{L:LV}{se tm val wn:Int}(b:tm/c.wh (-1)=wn)(hv: -2147483648<=val/\val<=2147483647)(a:(ku L ⟨-1,se,wn⟩).isSome=false):((⟨-1,se,wn⟩,⟨1,qc [yE val]⟩):SX)=zhL c L ⟨se,tm,val⟩:=by
 subst b
 unfold zhL
 have e:xc c ⟨se,tm,val⟩=⟨-1,se,tm/c.wh (-1)⟩:=rfl
 rw[e]
 cases h:ku L ⟨-1,se,tm/c.wh (-1)⟩with
 |none=>rw[zgw val hv];rfl
 |some v=>rw[h]at a;simp at a
theorem zhe{c:Cf}{L:LV}{se tm val wn:Int}{b:SX}(i:tm/c.wh (-1)=wn)(hv: -2147483648<=val/\val<=2147483647)(d:(ku L ⟨-1,se,wn⟩).isSome=true)(g:stX L ⟨-1,se,wn⟩=b)(a:∀p∈L,p.1.t= -1->p.2.cl.small):((⟨-1,se,wn⟩,⟨1,qc [yE val,b.2.cl]⟩):SX)=zhL c L ⟨se,tm,val⟩:=by
 subst i
 unfold zhL
 have e:xc c ⟨se,tm,val⟩=⟨-1,se,tm/c.wh (-1)⟩:=rfl
 rw[e]
 cases h:ku L ⟨-1,se,tm/c.wh (-1)⟩with
 |none=>rw[h]at d;simp at d
 |some v=>
  have f:b.2=v:=by rw[<-g];unfold stX;rw[h]
  rw[f,zgx val hv v.cl (a _ (vu h) rfl)];rfl
theorem zcQ{w:World}{s:Nat}{c:Cf}{tv:Value}{lb gb:Nat}{Gl:List (Sg×Unit)}{L:LV}(h:xl w s c tv lb gb Gl L)(hc:c.ok)(se tm val:Int)(aY:0<=se/\se<4)(am:0<=tm/\tm<=100000)(bN: -2147483648<=val/\val<=2147483647)(cs:∀p∈L,p.1.t= -1->p.2.cl.small):
  Calls prog 64 #[.pointer (U ⟨s,0,E⟩),I O se,I O tm,I S val] w fun e w'=>∃v,e=.returned v/\jG w' w.1.size v (km c Gl L ⟨se,tm,val⟩)/\P w.1.size w w':=by
 have cG:=hc.n1
 have bk:(⟨-1,se,tm/c.wh (-1)⟩:Sg).wf:=by
  obtain⟨ct,cJ⟩:=hc.wh (t:= -1) (by omega) (by omega)
  have hd:0<=tm/c.wh (-1):=Int.ediv_nonneg am.1 (by omega)
  have cE:tm/c.wh (-1)<=tm:=Int.ediv_le_self _ am.1
  refine⟨?_,?_,?_⟩<;>unfold xR<;>simp only<;>omega
 obtain⟨wn,ap⟩:∃wn,tm/c.wh (-1)=wn:=⟨_,rfl⟩
 have cr:=h.lt
 have bq:=zd (zbF h.hd hc (-1) se tm (by omega) (by omega) am)
 rw[ap]at bq bk
 have H:=zd h
 have aX:=zd ap
 have a8:=zd bk
 obtain⟨bL,bM⟩:=bN
 obtain⟨b,bK⟩:∃b,stX L ⟨-1,se,wn⟩=b:=⟨_,rfl⟩
 obtain⟨ok,bI⟩:∃ok,(ku L ⟨-1,se,wn⟩).isSome=ok:=⟨_,rfl⟩
 have b7:=zd bK
 have av:=zd bI
 clear h ap bk bK bI
 refine(callsIn_wide (n:=7)).1 ?_
 refine callsIn_of_wp_marks func64 rfl trivial ?_ rfl
 simp only[ntmps64,List.size_toArray,List.length_cons,List.length_nil,Nat.reduceAdd,Nat.reduceSub,Array.replicate_succ,Array.replicate_zero,List.push_toArray,List.append_toArray,List.nil_append,List.cons_append]
 refine wpIn_wide.2 ?_
 go_wp2_with fail
 refine(ud bq).mono ?_
 rintro e j ⟨rfl,bv⟩
 have b1:=zd bv
 clear bv
 go_wp2_with fail
 obtain⟨y0,y1,bz,yz⟩:=box2 j (.cells #[I O (-1),I O se,I O wn] 146) (.cells #[I O 1,I O val,I S val,I S val] 115)
 generalize((j.alloc (.cells #[I O (-1),I O se,I O wn] 146)).alloc (.cells #[I O 1,I O val,I S val,I S val] 115))=X at*
 have y:P w.1.size w X:=(ud b1).trans (bz.mono (ud b1).size)
 obtain⟨-,-,-,-,-,-,-,x7,-⟩:=((ud H).later y).cells
 obtain⟨k0,k1,k2,-⟩:=zc y0
 have cI:s<X.1.size:=M cr y.size
 have bD:j.1.size<X.1.size:=by omega
 have bh:j.1.size+1<X.1.size:=by omega
 have g0:=VS (X:=X) (ud H).live y (ud a8)
 have g1:=VS (X:=X.drew) (ud H).live y.drew (ud a8)
 have g2:=fun o=>VS (X:=X.alloc o) (ud H).live (y.alloc y.size o) (ud a8)
 have g3:=fun o=>VS (X:=(X.alloc o).drew) (ud H).live (y.alloc y.size o).drew (ud a8)
 have g4:=fun o=>VS (X:=X.drew.alloc o) (ud H).live (y.drew.alloc y.drew.size o) (ud a8)
 rw[ud b7,ud av]at g0 g1
 simp only[ud b7,ud av]at g2 g3 g4
 have ax:=zd y
 have Y0:=zd y0
 have Y1:=zd y1
 have YZ:=zd yz
 clear y y0 y1 yz bz
 go_region
 have bw:P X.1.size X ((X.alloc (.cells #[I O b.1.t,I O b.1.se,I O b.1.wn,I O b.2.st,I O b.2.cl.cnt,I O b.2.cl.sum,I S b.2.cl.mn,I S b.2.cl.mx] 148)).drew):=((R _ _).alloc (G _) _).drew
 have bF:((X.alloc (.cells #[I O b.1.t,I O b.1.se,I O b.1.wn,I O b.2.st,I O b.2.cl.cnt,I O b.2.cl.sum,I S b.2.cl.mn,I S b.2.cl.mx] 148)).drew).1[X.1.size]?=U (.cells #[I O b.1.t,I O b.1.se,I O b.1.wn,I O b.2.st,I O b.2.cl.cnt,I O b.2.cl.sum,I S b.2.cl.mn,I S b.2.cl.mx] 148 (0,0)):=zr _ _
 have bT:((X.alloc (.cells #[I O b.1.t,I O b.1.se,I O b.1.wn,I O b.2.st,I O b.2.cl.cnt,I O b.2.cl.sum,I S b.2.cl.mn,I S b.2.cl.mx] 148)).drew).1.size=X.1.size+1:=zG _ _
 generalize((X.alloc (.cells #[I O b.1.t,I O b.1.se,I O b.1.wn,I O b.2.st,I O b.2.cl.cnt,I O b.2.cl.sum,I S b.2.cl.mn,I S b.2.cl.mx] 148)).drew)=Y at*
 have a1:=zd bw
 have cb:=zd bF
 have ch:=zd bT
 clear g0 g1 g2 g3 g4 x7 k0 k1 k2 bw bF bT
 rename_i Q1 K1 aK1 K2 aK2
 have b0:∀(a4 aD aE aF aG v20 aH v22 aI aJ v25 aK aL aM aN aO aP aQ aR aS aT aU v37 aV v39:Value) (a:Cl) (Z:World),(∀V,P Z.1.size Z V->Hid (Calls prog 123 #[a4] V fun e w'=>e=.returned (.agg #[I O a.cnt,I O a.sum,I S a.mn,I S a.mx])/\P V.1.size V w'))->Hid (((⟨-1,se,wn⟩,⟨1,a⟩):SX)=zhL c L ⟨se,tm,val⟩)->Hid (P w.1.size w Z)->Hid (Z.1[j.1.size]?=U (.cells #[I O (-1),I O se,I O wn] 146 (0,0)))->K1 {tmps:=#[.pointer (U ⟨s,0,E⟩),I O se,I O tm,I S val,undef,undef,undef,undef,.slice E 0 0,.pointer (U ⟨j.1.size,0,E⟩),a4,aD,aE,undef,undef,.pointer (U ⟨s,0,E⟩),I O se,I O tm,aF,aG,v20,aH,v22,aI,aJ,v25,aK,aL,aM,aN,aO,aP,aQ,aR,aS,aT,aU,v37,aV,v39,undef,undef,undef,undef,undef,undef,undef,undef,undef,undef,undef,undef,undef,undef,undef,undef,undef,undef,undef],defers:=[]} Z:=by
  intro a4 aD aE aF aG v20 aH v22 aI aJ v25 aK aL aM aN aO aP aQ aR aS aT aU v37 aV v39 a Z HJ z Q a5
  refine aK1 _ _ ?_
  clear aK2 aK1
  go_wp2_with fail
  rename_i K3 aK3
  obtain⟨bY,bZ,c0,-⟩:=zc (ud a5)
  have N:j.1.size<Z.1.size:=zb (ud a5)
  have ab:∀(bx g:Nat) (T:World),Hid (P w.1.size w T)->Hid (T.1[bx]?=U (.cells #[.slice (U ⟨g,0,E⟩) 1 1] 105 (0,0)))->Hid (T.1[g]?=U (.cells #[I O (-1),I O se,I O wn,I O 1,I O a.cnt,I O a.sum,I S a.mn,I S a.mx] 148 (0,0)))->Hid (w.1.size<=bx/\w.1.size<=g)->K3 {tmps:=#[.pointer (U ⟨s,0,E⟩),I O se,I O tm,I S val,undef,undef,undef,undef,.slice E 0 0,.pointer (U ⟨j.1.size,0,E⟩),a4,aD,aE,.pointer (U ⟨bx,0,E⟩),undef,.pointer (U ⟨s,0,E⟩),I O se,I O tm,aF,aG,v20,aH,v22,aI,aJ,v25,aK,aL,aM,aN,aO,aP,aQ,aR,aS,aT,aU,v37,aV,v39,.agg #[I O (-1),I O se,I O wn],a4,.agg #[I O a.cnt,I O a.sum,I S a.mn,I S a.mx],.agg #[I O (-1),I O se,I O wn,I O 1,I O a.cnt,I O a.sum,I S a.mn,I S a.mx],.slice (U ⟨g,0,E⟩) 1 1,undef,undef,undef,undef,undef,undef,undef,undef,undef,undef,undef,undef,undef,undef],defers:=[]} T:=by
   intro bx g T aw b2 HG c2
   refine aK3 _ _ ?_
   obtain⟨cn,cp⟩:=ud c2
   have cm:=zb (ud b2)
   have co:=zb (ud HG)
   have bi:=(ud H).later (ud aw)
   obtain⟨ba,bc,bS⟩:=Qj bi.hd se tm
   obtain⟨C,b9⟩:∃C,Qi T s se tm=C:=⟨_,rfl⟩
   rw[b9]at ba bc bS
   have b4:=zd (Qh s se tm T)
   rw[b9]at b4
   have b8:=zd (Yk 183 #[.pointer (U ⟨T.1.size,0,E⟩),.pointer (U ⟨T.1.size+1,0,E⟩),.pointer (U ⟨T.1.size+2,0,E⟩)] 121 #[.pointer (U ⟨s,0,E⟩)] #[] C)
   obtain⟨bg,be,ay,bR⟩:=box2 C (.cells #[.func (.func 183) #[] #[.pointer (U ⟨T.1.size,0,E⟩),.pointer (U ⟨T.1.size+1,0,E⟩),.pointer (U ⟨T.1.size+2,0,E⟩)]] 199) (.cells #[.func (.func 121) #[.pointer (U ⟨s,0,E⟩)] #[]] 206)
   obtain⟨X2,bt⟩:∃X2,((C.alloc (.cells #[.func (.func 183) #[] #[.pointer (U ⟨T.1.size,0,E⟩),.pointer (U ⟨T.1.size+1,0,E⟩),.pointer (U ⟨T.1.size+2,0,E⟩)]] 199)).alloc (.cells #[.func (.func 121) #[.pointer (U ⟨s,0,E⟩)] #[]] 206))=X2:=⟨_,rfl⟩
   rw[bt]at bg be ay bR b8
   have a6:P T.1.size T X2:=bc.trans (ay.mono (by omega))
   have aZ:P w.1.size w X2:=(ud aw).trans (a6.mono (ud aw).size)
   have ak:=bi.later a6
   have bd:=(ud H).foot_lt
   have ai:=Vx (ex:=fun k=>k=bx\/k=g) (n:=X2.1.size) T.1.size s c hc tv lb gb se tm aY am X2 (ba.later ay) (fun i hi=>⟨by omega,by omega⟩) ⟨by omega,by omega⟩ (fun k hk=>by have:=bd k (.inr (.inl hk));constructor<;>omega)
   have aj:=jj (fun x:WSg=>x.1) 183 #[.pointer (U ⟨T.1.size,0,E⟩),.pointer (U ⟨T.1.size+1,0,E⟩),.pointer (U ⟨T.1.size+2,0,E⟩)] Xs 121 #[.pointer (U ⟨s,0,E⟩)] #[] jN (fun x=>(stG Gl L x.1).st==0) C.1.size (C.1.size+1) X2 (G _) ⟨by omega,by omega⟩ ⟨by omega,by omega⟩ bg be
    (fun x W ⟨m,hk⟩=>Xx (ak.kx hk (fun k hh=>by have:=bd k hh;constructor<;>omega)) x.1 x.2) ai
   have br:=zd aj
   have a9:=zd aZ
   have aW:=zd ((a6.block _ cm).trans (ud b2))
   have bn:=zd ((a6.block _ co).trans (ud HG))
   have cL:T.1.size<=X2.1.size:=a6.size
   clear bi ba bc bS bg be ay bR a6 aZ ak bd ai aj b9 bt b2 HG
   go_wp2_with(first
    |(go_at_call 120;refine(ud b4).mono ?_;rintro e C' ⟨rfl,cj⟩;subst cj)
    |(go_at_call 124;refine(ud b8).mono ?_;rintro e aa ⟨rfl,bu⟩;subst bu))
   rename_i K4 aK4
   have cC:=(ud a9).size
   refine(wpIn_wide (n:=7)).1 ?_
   refine yM (F:=Fence.wide) (n:=7) rfl (by omega) (gf:=194) (lb:=#[.pointer (U ⟨C'.1.size,0,E⟩),.pointer (U ⟨C'.1.size+1,0,E⟩)]) rfl trivial Yj (ud br (aa.1.size+2) (by omega)) (G _) (fun h k=>h.trans k) (fun W o o' h hc hw=>KX.putObj o' (by omega) (by omega) h hw) (R _ _) (fun _=>rfl)
    (adI w bx g aa.1.size (⟨-1,se,wn⟩,⟨1,a⟩)) (fun _ _ _=>False)
    (fun s A B row hs hg hr=>by
     obtain⟨v,h1,h2,h3,h4,h5⟩:=hs
     exact⟨v,zI h1 hg (fun r e=>(hr r e).2),Q6 h2 hg (fun r e=>(hr r e).2),h3.grown hg h3.size (fun k e=>by have:=(hr k e).1;omega),h4,Nat.le_trans h5 hg.size⟩)
    (fun _ _ _ _ _ hs _ _=>hs)
    ⟨_,ud aW,KR (xs:=[((⟨-1,se,wn⟩,⟨1,a⟩):SX)].flatMap xh) (n:=1) (size:=8) (ud bn) rfl (by decide) (by simp[maxLen]) cp,ud a9,fun r e=> .inl (by cases e;rfl),G _⟩
    (fun x a' W=>∃Bx,aa.1.size<=Bx/\W.1[Bx]?=U (.cells #[I O x.1.t,I O x.1.se,I O x.1.wn] 146 (0,0))/\a'={tmps:=#[.pointer (U ⟨s,0,E⟩),I O se,I O tm,I S val,undef,undef,undef,undef,.slice E 0 0,.pointer (U ⟨j.1.size,0,E⟩),a4,aD,aE,.pointer (U ⟨bx,0,E⟩),.pointer (U ⟨Bx,0,E⟩),.pointer (U ⟨s,0,E⟩),I O se,I O tm,aF,aG,v20,aH,v22,aI,aJ,v25,aK,aL,aM,aN,aO,aP,aQ,aR,aS,aT,aU,v37,aV,v39,.agg #[I O (-1),I O se,I O wn],a4,.agg #[I O a.cnt,I O a.sum,I S a.mn,I S a.mx],.agg #[I O (-1),I O se,I O wn,I O 1,I O a.cnt,I O a.sum,I S a.mn,I S a.mx],.slice (U ⟨g,0,E⟩) 1 1,.pointer (U ⟨s,0,E⟩),I O se,I O tm,.func (.func 183) #[] #[.pointer (U ⟨T.1.size,0,E⟩),.pointer (U ⟨T.1.size+1,0,E⟩),.pointer (U ⟨T.1.size+2,0,E⟩)],.pointer (U ⟨s,0,E⟩),.func (.func 121) #[.pointer (U ⟨s,0,E⟩)] #[],.func (.func 194) #[] #[.pointer (U ⟨C'.1.size,0,E⟩),.pointer (U ⟨C'.1.size+1,0,E⟩)],.agg #[I O x.1.t,I O x.1.se,I O x.1.wn],undef,undef,undef,undef,undef,undef],defers:=[]})
    (fun x a' s A B row hs hg hr=>by
     obtain⟨Bx,h1,h2,h3⟩:=hs
     exact⟨Bx,h1,zI h2 hg (fun r e=>(hr r e).2),h3⟩) ?assign ?body ?done ?stop
   case assign=>
    rintro l ar x W K hI hK
    have HK:=zd hK
    have HI:=zd hI
    clear hK hI
    gi_wp2
    have a7:=(R W.1.size W).alloc (G _) (.cells #[I O x.1.t,I O x.1.se,I O x.1.wn] 146)
    have cw:aa.1.size<=W.1.size:=by obtain⟨v,-,-,-,-,h5⟩:=ud HI;exact h5
    exact ud HK _ _ (zw a7) (KX.of_below a7) ((ud HI).later a7) ⟨W.1.size,cw,zr _ _,rfl⟩
   case body=>
    rintro l ar x a' W hl ⟨r,hr⟩ ⟨v,i1,i2,i3,i4,i5⟩ ⟨Bx,cA,hx,rfl⟩ aB
    have al:=zb i1
    have cK:=zb hx
    obtain⟨c1,-⟩:=zc i1
    obtain⟨x0,x1,x2,-⟩:=zc hx
    have cH:=hc.n4
    have bH:((((⟨-1,se,wn⟩,⟨1,a⟩):SX))::ar.map (fun x=>(x.1,(⟨2,qC⟩:SV)))).length<=1000000:=by rw[List.length_cons,List.length_map];omega
    obtain⟨zs,bl⟩:∃zs,(((⟨-1,se,wn⟩,⟨1,a⟩):SX))::ar.map (fun x=>(x.1,(⟨2,qC⟩:SV)))=zs:=⟨_,rfl⟩
    rw[bl]at i2 bH
    have cg:=zd bl
    have bo:=zd i1
    have a2:=zd i2
    have b5:=zd i3
    have bp:=zd i4
    have HX:=zd hx
    clear i1 i2 i3 i4 hx hr bl aB br aW bn aw b4 b8 a9
    gi_wp2_with (first
     |(gi_at_builtin;refine zgX rfl _ _ rfl w.1.size _ zs ((x.1,⟨2,qC⟩):SX) rfl ((ud a2).alloc _) W.1.size rfl (zr _ _) bH (by rw[zG];omega) ?_;intro g' bs w3 ag az bP cx
       have bB:=Qt ((ud a2).alloc (.cells #[I O x.1.t,I O x.1.se,I O x.1.wn,I O 2,I O 0,I O 0,I S 0,I S 0] 148)) az aa.1.size
       have b3:w3.1[bx]?=U (.cells #[v] 105 (0,0)):=(az.block bx (by rw[zG];omega) (fun e=>zx (ud bo) (ud a2) (by decide) bx e.symm rfl)).trans ((Below.heap_alloc _ _ _ al).trans (ud bo))
       obtain⟨d1,-⟩:=zc b3
       have f1:w3.frozen? ⟨bx,0,E⟩=false:=zH b3 0
       have cy:=zb b3
       have cc:=zd ag
       have c3:=zd az
       have c9:=zd bB
       have bm:=zd b3
       have ce:=zd bP
       clear ag az bB b3 bP
       go_frame)
     |gi_in)
    have hk:=ud c9
    have hg:(W.alloc (.cells #[I O x.1.t,I O x.1.se,I O x.1.wn,I O 2,I O 0,I O 0,I S 0,I S 0] 148)).grownBy w3 v.ownBlock:=ud c3
    have a0:=ud cc
    have hb:=ud b5
    have a7:=(R W.1.size W).alloc (G _) (.cells #[I O x.1.t,I O x.1.se,I O x.1.wn,I O 2,I O 0,I O 0,I S 0,I S 0] 148)
    have ck:P w.1.size w w3:=(hb.alloc hb.size _).grown hg (by have:=hb.size;rw[zG];omega) (fun k e=>(World.ownsRow.lt (ud a2) k e).1)
    refine⟨((zw a7).trans hk.1).trans ((KeepsOthers.setCell w3 ⟨bx,0,E⟩ _).from _),((KX.of_below a7).trans (KX.grown hg (fun r e=>⟨?_,?_⟩))).trans (ziy (.inl rfl) (by omega)),?_⟩
    ·rcases ud bp r e with h|h
     ·exact .inl (.inr h)
     ·exact .inr h
    ·obtain⟨cz,bA⟩:=zz ((ud a2).alloc (.cells #[I O x.1.t,I O x.1.se,I O x.1.wn,I O 2,I O 0,I O 0,I S 0,I S 0] 148)) e
     exact⟨_,_,bA⟩
    ·refine⟨_,xi (i:=0) (ud bm) _,?_,ck.setCell (p:=⟨bx,0,E⟩) cn _,fun r e=>?_,?_⟩
     ·have aC:=zg (w':=w3.setCell ⟨bx,0,E⟩ (.slice (U ⟨g',0,E⟩) (zs.length+1) bs)) a0 (zq (f:=fun k=>k=bx) (zk.refl _ _) rfl) (fun k cq e=>zx (ud bm) a0 (by decide) k cq e)
      have ez:(((⟨-1,se,wn⟩,⟨1,a⟩):SX))::(ar++[x]).map (fun x=>(x.1,(⟨2,qC⟩:SV)))=zs++[((x.1,⟨2,qC⟩):SX)]:=by
       rw[List.map_append,<-List.cons_append,ud cg];rfl
      rw[ez]
      unfold jG
      rw[List.length_append,List.length_singleton]at aC ⊢
      exact aC
     ·have er:r=g':=by cases e;rfl
      subst er
      rcases ud ce with h|h
      ·exact ud bp _ h
      ·right;rw[h,zG];omega
     ·have:=hg.size;rw[zG]at this;simp;omega
   case done=>
    rintro D xs W hD hS ⟨v,i1,i2,i3,i4,i5⟩ hK
    obtain⟨ys,rfl,bQ⟩:=hS
    obtain⟨c1,-⟩:=zc i1
    have al:=zb i1
    have a2:=zd i2
    have b5:=zd i3
    have b6:=zd hK
    have cf:=zd bQ
    clear i1 i2 i3 i4 hK bQ
    refine aK4 _ _ ?_
    go_wp2_with fail
    refine⟨by simp,.inl ⟨_,_,rfl,run_takeDeferred (ud b6),?_⟩⟩
    refine⟨_,results_tmp rfl _ _ _,_,rfl,?_,xE (ud b5) (G _) (by omega) (ud b6) _⟩
    have aC:=Q6 (ud a2) (grownBy_putObj' W D (.deferred E)) (fun r e=>by cases e;exact⟨_,ud b6,rfl⟩)
    have ez:km c Gl L ⟨se,tm,val⟩=(((⟨-1,se,wn⟩,⟨1,a⟩):SX))::xs.map (fun x=>(x.1,(⟨2,qC⟩:SV))):=by
     unfold km
     rw[<-ud z,ud cf,zbC hc aY am Gl L val c.n (G _)]
    rw[ez]
    exact aC
   case stop=>
    rintro D c ar W _ _ h _
    exact h.elim
  have c8:=HJ Z (R _ _)
  have c7:=HJ Z.drew (R _ _).drew
  have bb:P Z.1.size Z (Z.alloc (.cells #[.slice E 0 0] 105)):=(R _ _).alloc (G _) _
  have c4:=HJ (Z.alloc (.cells #[.slice E 0 0] 105)) bb
  have c5:=HJ (Z.alloc (.cells #[.slice E 0 0] 105)).drew bb.drew
  have c6:=HJ (Z.drew.alloc (.cells #[.slice E 0 0] 105)) ((R _ _).drew.alloc (G _) _)
  have bU:=zG Z (.cells #[.slice E 0 0] 105)
  have bG:=zr Z (.cells #[.slice E 0 0] 105)
  have ca:=zd bG
  have bf:¬j.1.size=Z.1.size:=by omega
  clear HJ bG bb aK3
  go_region_held3 (fun w'=>w'.cell? ⟨j.1.size,0,E⟩=U (I O (-1))/\w'.cell? ⟨j.1.size,1,E⟩=U (I O se)/\w'.cell? ⟨j.1.size,2,E⟩=U (I O wn)) (go_keep) (first
   |(go_at_call 123;(first|(with_reducible refine(ud c8).mono ?_)|(with_reducible refine(ud c7).mono ?_));rintro e J ⟨rfl,d⟩;have q:P Z.1.size Z J:=⟨d.os,d.tape,d.output,d.size,d.block⟩;have bV:=(q.cell (p:=⟨j.1.size,0,E⟩) N).trans bY;have bW:=(q.cell (p:=⟨j.1.size,1,E⟩) N).trans bZ;have bX:=(q.cell (p:=⟨j.1.size,2,E⟩) N).trans c0;have bC:=M N q.size;have au:=zd q;clear q d)
   |(go_at_call 123;(first|(with_reducible refine(ud c4).mono ?_)|(with_reducible refine(ud c5).mono ?_)|(with_reducible refine(ud c6).mono ?_));rintro e J ⟨rfl,d⟩;have q:P (Z.1.size+1) (Z.alloc (.cells #[.slice E 0 0] 105)) J:=⟨d.os,d.tape,d.output,d.size,fun k hk=>d.block k (by first|exact Nat.lt_of_lt_of_eq hk bU.symm|exact hk)⟩;have bV:=(q.cell (p:=⟨j.1.size,0,E⟩) (Nat.lt_succ_of_lt N)).trans (((R Z.1.size Z).alloc (G _) (.cells #[.slice E 0 0] 105)).cell (p:=⟨j.1.size,0,E⟩) N|>.trans bY);have bW:=(q.cell (p:=⟨j.1.size,1,E⟩) (Nat.lt_succ_of_lt N)).trans (((R Z.1.size Z).alloc (G _) (.cells #[.slice E 0 0] 105)).cell (p:=⟨j.1.size,1,E⟩) N|>.trans bZ);have bX:=(q.cell (p:=⟨j.1.size,2,E⟩) (Nat.lt_succ_of_lt N)).trans (((R Z.1.size Z).alloc (G _) (.cells #[.slice E 0 0] 105)).cell (p:=⟨j.1.size,2,E⟩) N|>.trans c0);have aq:=(q.block Z.1.size (Nat.lt_succ_self _)).trans (ud ca);obtain⟨jc,-⟩:=zc aq;have jf:=zH aq 0;have bC:=M (Nat.lt_succ_of_lt N) (Nat.le_trans (Nat.le_of_eq bU.symm) q.size);have cv:=zb aq;have cM:(J.setCell ⟨Z.1.size,0,E⟩ (.slice (U ⟨J.1.size,0,E⟩) 1 1)).cell? ⟨j.1.size,0,E⟩=U (I O (-1)):=(Ky bf _).trans bV;have cN:(J.setCell ⟨Z.1.size,0,E⟩ (.slice (U ⟨J.1.size,0,E⟩) 1 1)).cell? ⟨j.1.size,1,E⟩=U (I O se):=(Ky bf _).trans bW;have cO:(J.setCell ⟨Z.1.size,0,E⟩ (.slice (U ⟨J.1.size,0,E⟩) 1 1)).cell? ⟨j.1.size,2,E⟩=U (I O wn):=(Ky bf _).trans bX;have cF:j.1.size<(J.setCell ⟨Z.1.size,0,E⟩ (.slice (U ⟨J.1.size,0,E⟩) 1 1)).1.size:=(by simpa using bC);have au:=zd q;have ci:=zd aq;clear q d aq))
  ·have u:P w.1.size w J:=(ud Q).trans ((ud au).mono (ud Q).size)
   obtain⟨e1,e2,e3,-⟩:=box2 J (.cells #[I O (-1),I O se,I O wn,I O 1,I O a.cnt,I O a.sum,I S a.mn,I S a.mx] 148) (.cells #[.slice (U ⟨J.1.size,0,E⟩) 1 1] 105)
   exact ab _ _ _ (u.trans (e3.mono u.size)) e2 e1 ⟨by have:=u.size;omega,u.size⟩
  ·have u:P w.1.size w J:=(ud Q).trans ((ud au).mono (ud Q).size)
   obtain⟨e1,e2,e3,-⟩:=box2 J (.cells #[.slice (U ⟨J.1.size+1,0,E⟩) 1 1] 105) (.cells #[I O (-1),I O se,I O wn,I O 1,I O a.cnt,I O a.sum,I S a.mn,I S a.mx] 148)
   exact ab _ _ _ (u.trans (e3.mono u.size)) e1 e2 ⟨u.size,by have:=u.size;omega⟩
  ·have ao:=ud Q
   have an:P w.1.size w (Z.alloc (.cells #[.slice E 0 0] 105)):=ao.alloc ao.size _
   have u:P w.1.size w J:=an.trans ((ud au).mono (by have:=ao.size;omega))
   have bO:=u.setCell (p:=⟨Z.1.size,0,E⟩) ao.size (.slice (U ⟨J.1.size,0,E⟩) 1 1)
   have al:(J.setCell ⟨Z.1.size,0,E⟩ (.slice (U ⟨J.1.size,0,E⟩) 1 1)).1.size=J.1.size:=by simp
   have e2:=zr (J.setCell ⟨Z.1.size,0,E⟩ (.slice (U ⟨J.1.size,0,E⟩) 1 1)) (.cells #[I O (-1),I O se,I O wn,I O 1,I O a.cnt,I O a.sum,I S a.mn,I S a.mx] 148)
   rw[al]at e2
   exact ab _ _ _ (bO.alloc bO.size _) ((Below.heap_alloc _ _ _ (by rw[al];exact cv)).trans (xi (i:=0) (ud ci) _)) e2 ⟨ao.size,by have:=u.size;omega⟩
 clear aK1
 cases ok with
 |false=>
  obtain⟨a,a3⟩:∃a,qc [yE val]=a:=⟨_,rfl⟩
  have z:=zd (zhd (ud aX) ⟨bL,bM⟩ (ud av))
  rw[a3]at z
  have ad:=((ud a1).block (j.1.size+1) bh).trans (ud Y1)
  have ac:CAt Y (j.1.size+1) [yE val]:=CAt.of_owns (base:=0) (cap:=1) (e:=115) (KR (xs:=Z0 (yE val)) ad rfl (by simp) (by simp[maxLen]) (Nat.zero_le _))
  have bJ:j.1.size+1<Y.1.size:=M bh (ud a1).size
  have HJ:∀V,P Y.1.size Y V->Hid (Calls prog 123 #[.slice (U ⟨j.1.size+1,0,E⟩) 1 1] V fun e w'=>e=.returned (.agg #[I O a.cnt,I O a.sum,I S a.mn,I S a.mx])/\P V.1.size V w'):=fun V ae=>by
   have:=zbu (U ⟨j.1.size+1,0,E⟩) (j.1.size+1) 1 [yE val] (fun _=>rfl) (by simp) V (M bJ ae.size) (ac.below ae bJ)
   rw[a3]at this;exact this
  have Q:=zd ((ud ax).trans ((ud a1).mono (ud ax).size))
  have a5:=zd (((ud a1).block _ bD).trans (ud Y0))
  clear ad ac a3
  go_wp2_with fail
  exact b0 _ _ _ _ _ _ _ _ _ _ _ _ _ _ _ _ _ _ _ _ _ _ _ _ _ a Y HJ z Q a5
 |true=>
  obtain⟨-,-,-,-,o1,o2,o3,o4,-⟩:=zc (ud cb)
  have ct:=(ud b1).size
  have ad:=((ud a1).block (j.1.size+1) bh).trans (ud Y1)
  have cd:=zd (KR (base:=w.1.size) (xs:=[yE val].flatMap Z0) (n:=1) (size:=4) ad rfl (by decide) (by simp[maxLen]) (by omega))
  have cB:X.1.size<Y.1.size:=by rw[ud ch];omega
  have cD:w.1.size<=Y.1.size:=by omega
  clear ad
  go_wp2_with(first|(at_builtin;refine ziN rfl _ _ rfl w.1.size (.slice (U ⟨j.1.size+1,0,E⟩) 1 1) [yE val] b.2.cl rfl ((ud cd).alloc _) Y.1.size rfl (zr _ _) ?hll ?hbb ?_;(case hll=>simp);(case hbb=>(rw[zG];omega));intro g cap Z a0 af aB;have HG:=zd af;have HO:=zd a0;clear af a0)|go_in)
  obtain⟨a,a3⟩:∃a,qc [yE val,b.2.cl]=a:=⟨_,rfl⟩
  have z:=zd (zhe (ud aX) ⟨bL,bM⟩ (ud av) (ud b7) cs)
  rw[a3]at z
  have ac:CAt Z g [yE val,b.2.cl]:=CAt.of_owns (base:=w.1.size) (cap:=cap) (e:=115) (ud HO)
  have HJ:∀V,P Z.1.size Z V->Hid (Calls prog 123 #[.slice (U ⟨g,0,E⟩) 2 cap] V fun e w'=>e=.returned (.agg #[I O a.cnt,I O a.sum,I S a.mn,I S a.mx])/\P V.1.size V w'):=fun V ae=>by
   have:=zbu (U ⟨g,0,E⟩) g cap [yE val,b.2.cl] (fun _=>rfl) (by simp) V (M aB ae.size) (ac.below ae aB)
   rw[a3]at this;exact this
  have bj:=(ud ax).trans ((ud a1).mono (ud ax).size)
  have aA:=(ud HG)
  have ah:(Value.slice (U ⟨j.1.size+1,0,E⟩) 1 1).ownBlock=U (j.1.size+1):=rfl
  rw[ah]at aA
  have an:=bj.alloc bj.size (.cells #[I O b.2.cl.cnt,I O b.2.cl.sum,I S b.2.cl.mn,I S b.2.cl.mx] 115)
  have Q:=zd (an.grown aA an.size (fun k e=>by cases e;omega))
  have cu:=zG Y (.cells #[I O b.2.cl.cnt,I O b.2.cl.sum,I S b.2.cl.mn,I S b.2.cl.mx] 115)
  have bE:=((ud a1).block _ bD).trans (ud Y0)
  have a5:=zd ((aA.block j.1.size (by omega) (by simp)).trans ((Below.heap_alloc _ _ _ (by omega)).trans bE))
  clear ac a3 bj aA ah an cu bE o1 o2 o3 o4
  exact b0 _ _ _ _ _ _ _ _ _ _ _ _ _ _ _ _ _ _ _ _ _ _ _ _ _ a Z HJ z Q a5
end Go.Proofs.YtndhpgciopcncaaGreatDoor
