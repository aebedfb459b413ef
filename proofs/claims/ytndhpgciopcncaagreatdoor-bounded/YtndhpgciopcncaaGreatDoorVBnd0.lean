import Derived.Test.YtndhpgciopcncaaGreatDoorVStp7
open Go.Value renaming int → I
open Go.IntKind renaming i64 → J
open Go.RowKit.Below renaming refl → O
set_option linter.unusedVariables false
set_option maxRecDepth 20000
set_option maxHeartbeats 8000000
namespace Go.Proofs.YtndhpgciopcncaaGreatDoor
open Go.RowKit Go.Maps Go.Shelf
theorem kA(k:Int):∀L:LV,0<=ze L k/\ze L k<=L.length
 |[]=>by simp[ze,qq]
 |p::L=>by
  have b:=kA k L
  unfold ze at*
  simp only[List.map_cons,qq,List.length_cons]
  have a:0<=QN k p.2/\QN k p.2<=1:=by unfold QN;split<;>omega
  omega
theorem xv{P:Program}{id:Nat}{Q:Exit->Act->World->Prop}{a:Act}{w:World}{l:List Oper}(d:P.follows .mixedOrders=true)(c:Region.lexB .any l.toArray=true)(h:wpStill P l.toArray w.drew (fun b=>Q .normal b w.drew) l a):(Code.region id l.toArray true).wp P Q a w:=wp_region_still_lit d c h
theorem vd{P:Program}{ops:Array Oper}{w:World}{Q:Act->Prop}{o:Oper}{rest:List Oper}{a:Act}(h:Region.wanted o (yielded ops a.tmps)=false)(b:wpStill P ops w Q rest (a.put o.dst undef)):wpStill P ops w Q (o::rest) a:=by
 unfold wpStill
 rw[h]
 exact b
theorem Bel.low{B:Nat}{w a:World}(h:Bel B w a):Below B w a:=h.bel
theorem VY(s le la wi ke qu:Int)(a:Option Addr)(n cap:Nat)(F0 W0 K0:Nat->Int)(sa:Option Addr)(n2 aw:Nat)(G:Nat->X8)(w:World)(ai:Zz w)(h1: -9223372036854775808<=s/\s<=9223372036854775807)(h2: -9223372036854775808<=le/\le<=9223372036854775807)(h3: -9223372036854775808<=la/\la<=9223372036854775807)(h4: -9223372036854775808<=wi/\wi<=9223372036854775807)(h5: -9223372036854775808<=ke/\ke<=9223372036854775807)(h6: -9223372036854775808<=qu/\qu<=9223372036854775807)(aF:TS w a n F0 W0 K0)(hn:n<=140737488355328)(hF:∀i,i<n-> -9223372036854775808<=F0 i/\F0 i<=9223372036854775807)(hW:∀i,i<n-> -9223372036854775808<=W0 i/\W0 i<=9223372036854775807)(d:∀i,i<n-> -9223372036854775808<=K0 i/\K0 i<=9223372036854775807)(aD:KS w sa n2 G)(bd:n2<4398046511104)(hG:∀i,i<n2->(G i).fits):
  Calls Tryz.prog 6 #[.agg #[I J s,I J le,I J la,I J wi,I J ke,I J qu,.slice a n cap],.slice sa n2 aw] w fun e w'=>e=.returned (.bool true)/\Below w.1.size w w':=by
 have a9:Below w.1.size w (w.alloc (.cells #[I J s,I J le,I J la,I J wi,I J ke,I J qu,.slice a n cap] 27)):=(O _ _).alloc (Nat.le_refl _) _
 have q0:=zk w (.cells #[I J s,I J le,I J la,I J wi,I J ke,I J qu,.slice a n cap] 27)
 obtain⟨r0,r1,r2,r3,r4,r5,r6,-⟩:=zc q0
 have bg:=za q0
 have ar:=zd (ZJ s le la wi ke qu a n cap F0 W0 K0 (w.alloc (.cells #[I J s,I J le,I J la,I J wi,I J ke,I J qu,.slice a n cap] 27)) (vx ai a9) h1 h2 h3 h4 h5 h6 (aF.below a9) hn hF hW d)
 clear ai
 have aj:=zd a9
 have aJ:=zd aD
 have HG:=zd hG
 clear a9 q0 h1 h2 h3 h4 h5 h6 aF hF hW d aD hG
 go_enter Tryz.func6,Tryz.ntmps6
 go_wp2_with fail
 generalize(w.alloc (.cells #[I J s,I J le,I J la,I J wi,I J ke,I J qu,.slice a n cap] 27))=X at*
 refine(ud ar).mono ?_
 rintro e w1 ⟨c,p,hc,hf,rfl,j,f⟩
 have ay:Below w.1.size w w1:=(ud aj).trans (f.mono (ud aj).size)
 have aL:=zd j
 have aI:=zd ay
 have aO:xg 1:=by unfold xg;omega
 have aW:w.1.size<=X.1.size:=(ud aj).size
 clear j f ay ar r0 r1 r2 r3 r4 r5 r6
 go_wp2_with fail
 go_loopw [6,7,8,9,10] (fun y _ _ _ _ wr=>∃(t:Nat) (m:MS) (ns:List Nm),t<=n2/\y=I J t/\vC wr X.1.size p c 1 m ns t/\Below w.1.size w wr) (fun y _ _ _ _ _=>n2-(intOf y).toNat)
 case atStart=>exact⟨0,_,[],Nat.zero_le _,rfl,ud aL,ud aI⟩
 case round=>
  obtain⟨t,m,ns,bi,rfl,j,aa⟩:=hrel
  have bh:=j.size
  obtain⟨s0,k0,D,g,aS,h,aC,C⟩:=j
  have j:vC wr X.1.size p c 1 m ns t:=⟨s0,k0,D,g,aS,h,aC,C⟩
  have aG:=h.ok.seg.u0 hc
  have bb:=h.ok.seg.len400 hc
  have A:=zd (xI g.mill hc ⟨aG.1,by omega⟩ (by omega))
  have x0:=(g.cells).1
  have xl:=g.lt
  rw[D]at x0 xl
  have be:(n2:Int)<=4398046511104:=by omega
  by_cases aE:t<n2
  ·have aZ:(t:Int)<n2:=by omega
   obtain⟨b,Y,aV,v,aA⟩:=ud aJ (by omega)
   subst aV
   obtain⟨g0,g1,g2,g3⟩:=aA t aE
   have aB:=ud HG t aE
   generalize G t=o at*
   obtain⟨kd,oa,ob,ov⟩:=o
   obtain⟨fa,fb,fv⟩:=aB
   dsimp only at g0 g1 g2 g3 fa fb fv
   have ae:=zd j
   have H:=zd g
   have aK:=zd h
   have r:=zd aa
   clear aA j g h aa
   go_wp2_with fail
   refine(ud A).mono ?_
   rintro e V1 ⟨rfl,f⟩
   have k:=f.alloc f.size (.cells #[I J m.now,I J (zm m.L),I J (zU (zO (zm m.L) c.qu)),I J 1,I J (ze m.L 1),I J (ze m.L 2),I J (ze m.L 3),I J m.Gl.length] 37)
   have an:=(ud ae).later k
   have l:=(ud H).later k
   have u:=(ud r).trans (k.mono (ud r).size)
   have av:=zd (zk V1 (.cells #[I J m.now,I J (zm m.L),I J (zU (zO (zm m.L) c.qu)),I J 1,I J (ze m.L 1),I J (ze m.L 2),I J (ze m.L 3),I J m.Gl.length] 37))
   have y0:=(u.cell (p:=⟨b,Y+t*4,none⟩) v).trans g0
   have y1:=(u.cell (p:=⟨b,Y+t*4+1,none⟩) v).trans g1
   have y2:=(u.cell (p:=⟨b,Y+t*4+2,none⟩) v).trans g2
   have y3:=(u.cell (p:=⟨b,Y+t*4+3,none⟩) v).trans g3
   have bo:=Nat.lt_of_lt_of_le v u.size
   obtain⟨na,nc,T⟩:=zL l.nrow
   have ac:=(l.cells).2.2.2.2.2.2.2.1
   rw[T,D]at ac
   have yl:=l.lt
   rw[D]at yl
   have aM:=zd an
   have ad:=zd u
   have M:=zd (Qh an hc hf aO kd oa ob ov fa fb fv (by omega))
   clear f k an l u T x0 xl A ae r
   generalize bl:V1.1.size=wb at*
   go_wp2_with fail
   generalize(V1.alloc (.cells #[I J m.now,I J (zm m.L),I J (zU (zO (zm m.L) c.qu)),I J 1,I J (ze m.L 1),I J (ze m.L 2),I J (ze m.L 3),I J m.Gl.length] 37))=Z at*
   refine(ud M).mono ?_
   rintro e V2 ⟨rfl,hP⟩
   obtain⟨m1,m',E,hA,aN,ax,Q,a7,a8⟩:=hP
   have af:=zd ax
   obtain⟨s2,k2,ap,R,ba,ab,aX,V⟩:=ax
   have aH:=ab.ok.seg.u0 hc
   have bc:=ab.ok.seg.len400 hc
   have bf:zm m'.L<=c.qu:=ab.ok.seg.used
   have b0:=ab.ok.now
   have ag:=zd (xI R.mill hc ⟨aH.1,by omega⟩ (by omega))
   have v0:=(R.cells).1
   have vl:=R.lt
   rw[ap]at v0 vl
   have au:=zd R
   have N:=zd (Q.stk _ _ _ (ud av))
   have ak:=zd ((ud ad).trans (Q.bel.mono aW))
   clear R Q hA aN M y0 y1 y2 y3 ac yl
   go_wp2_with fail
   refine(ud ag).mono ?_
   rintro e V3 ⟨rfl,ao⟩
   have P:=ao.alloc ao.size (.cells #[I J m'.now,I J (zm m'.L),I J (zU (zO (zm m'.L) c.qu)),I J 1,I J (ze m'.L 1),I J (ze m'.L 2),I J (ze m'.L 3),I J m'.Gl.length] 37)
   have S:=(ud au).later P
   obtain⟨bm,bn,ah⟩:=zL S.nrow
   obtain⟨ca,cc,az⟩:=zL S.crow
   obtain⟨-,-,-,-,z7,z8,z9,a0,-,-⟩:=S.cells
   rw[ah]at a0
   rw[az]at z8
   rw[ap]at z7 z8 z9 a0
   have zl:=S.lt
   rw[ap]at zl
   have aq:=(P.block _ (za (ud N))).trans (ud N)
   have z:=zk V3 (.cells #[I J m'.now,I J (zm m'.L),I J (zU (zO (zm m'.L) c.qu)),I J 1,I J (ze m'.L 1),I J (ze m'.L 2),I J (ze m'.L 3),I J m'.Gl.length] 37)
   have B:=(ud ak).trans (P.mono (ud ak).size)
   obtain⟨-,a1,-⟩:=zc aq
   obtain⟨a2,a3,-⟩:=zc z
   have a4:=(B.cell (p:=⟨b,Y+t*4,none⟩) v).trans g0
   have b5:=za aq
   have b6:=za z
   have b7:=Nat.lt_of_lt_of_le v B.size
   have am:=zd ((ud af).later P)
   have F:=zd B
   clear ao P S ah az aq z B v0 vl ag N ak au af g0 g1 g2 g3 av aM ad H aK
   go_wp2_with fail
   generalize(V3.alloc (.cells #[I J m'.now,I J (zm m'.L),I J (zU (zO (zm m'.L) c.qu)),I J 1,I J (ze m'.L 1),I J (ze m'.L 2),I J (ze m'.L 3),I J m'.Gl.length] 37))=U at*
   generalize aT:V3.1.size=nb at*
   have b8:=hc.n4
   have b9:=hc.qu
   generalize zm m'.L=u2 at*
   generalize zm m.L=u1 at*
   obtain⟨b1,b2⟩:=aG
   obtain⟨b3,b4⟩:=aH
   have e1:IntKind.i64.wrap (u1+1)=u1+1:=by rw[IntKind.wrap_i64];omega
   have e2:IntKind.i64.wrap (2*(c.n:Int))=2*c.n:=by rw[IntKind.wrap_i64];omega
   have e3:IntKind.i64.wrap (u1+1+2*(c.n:Int))=u1+1+2*c.n:=by rw[IntKind.wrap_i64];omega
   have f1:decide (c.qu<u2)=false:=by simp;omega
   by_cases q:kd=1
   ·rcases a7 q with⟨hm,W,aP⟩|⟨x,W,bk,bj⟩
    ·have k1:(kd==1)=true:=by simp[q]
     have hN:E.length=ns.length:=by rw[W]
     rw[hN]at a0
     have f4:decide (u1+1+2*(c.n:Int)<=c.qu)=false:=by simp;omega
     clear a7 a8 hm W q hN C V
     generalize ns.length=N1 at*
     refine xv (by kernel_rfl) (by kernel_rfl) ?_
     iterate 21 ((with_reducible refine wpStill_step (fun K d=>?_));go_simp;(with_reducible refine d _ ?_);clear d K)
     refine wpStill_nil ?_
     go_wp2_with fail
     refine xv (by kernel_rfl) (by kernel_rfl) ?_
     iterate 8 ((with_reducible refine wpStill_step (fun K d=>?_));go_simp;(with_reducible refine d _ ?_);clear d K)
     iterate 21 ((with_reducible refine vd (by kernel_rfl) ?_);(try simp only[Act.put,List.setIfInBounds_toArray,List.set_cons_zero,List.set_cons_succ]))
     iterate 1 ((with_reducible refine wpStill_step (fun K d=>?_));go_simp;(with_reducible refine d _ ?_);clear d K)
     refine wpStill_nil ?_
     go_wp2_with fail
     refine xv (by kernel_rfl) (by kernel_rfl) ?_
     iterate 34 ((with_reducible refine wpStill_step (fun K d=>?_));go_simp;(with_reducible refine d _ ?_);clear d K)
     refine wpStill_nil ?_
     go_wp2_with fail
     go_roundw
     case rel=>exact⟨t+1,m',E,by omega,by go_num,((ud am).later (O _ _).drew).later (O _ _).drew|>.later (O _ _).drew,(((ud F).drew).drew).drew⟩
     case measure=>simp[intOf];omega
    ·have k1:(kd==1)=true:=by simp[q]
     have hN:E.length=ns.length+1:=by rw[W];simp
     rw[hN]at a0
     have f4:decide (u2<=u1)=false:=by simp;omega
     have f5:decide (u1+1+2*(c.n:Int)<u2)=false:=by simp;omega
     clear a7 a8 W q hN C V
     generalize ns.length=N1 at*
     have f2:(N1:Int)<(N1:Int)+1:=by omega
     have f3:((N1:Int)+1==(N1:Int))=false:=by simp;omega
     refine xv (by kernel_rfl) (by kernel_rfl) ?_
     iterate 21 ((with_reducible refine wpStill_step (fun K d=>?_));go_simp;(with_reducible refine d _ ?_);clear d K)
     refine wpStill_nil ?_
     go_wp2_with fail
     refine xv (by kernel_rfl) (by kernel_rfl) ?_
     iterate 30 ((with_reducible refine wpStill_step (fun K d=>?_));go_simp;(with_reducible refine d _ ?_);clear d K)
     refine wpStill_nil ?_
     go_wp2_with fail
     refine xv (by kernel_rfl) (by kernel_rfl) ?_
     iterate 16 ((with_reducible refine wpStill_step (fun K d=>?_));go_simp;(with_reducible refine d _ ?_);clear d K)
     iterate 17 ((with_reducible refine vd (by kernel_rfl) ?_);(try simp only[Act.put,List.setIfInBounds_toArray,List.set_cons_zero,List.set_cons_succ]))
     iterate 1 ((with_reducible refine wpStill_step (fun K d=>?_));go_simp;(with_reducible refine d _ ?_);clear d K)
     refine wpStill_nil ?_
     go_wp2_with fail
     go_roundw
     case rel=>exact⟨t+1,m',E,by omega,by go_num,((ud am).later (O _ _).drew).later (O _ _).drew|>.later (O _ _).drew,(((ud F).drew).drew).drew⟩
     case measure=>simp[intOf];omega
   ·have k1:(kd==1)=false:=by simp[q]
    have hN:E.length=ns.length:=by rw[a8 q]
    rw[hN]at a0
    clear a7 a8 q hN C V
    generalize ns.length=N1 at*
    refine xv (by kernel_rfl) (by kernel_rfl) ?_
    iterate 21 ((with_reducible refine wpStill_step (fun K d=>?_));go_simp;(with_reducible refine d _ ?_);clear d K)
    refine wpStill_nil ?_
    go_wp2_with fail
    refine xv (by kernel_rfl) (by kernel_rfl) ?_
    iterate 8 ((with_reducible refine wpStill_step (fun K d=>?_));go_simp;(with_reducible refine d _ ?_);clear d K)
    iterate 21 ((with_reducible refine vd (by kernel_rfl) ?_);(try simp only[Act.put,List.setIfInBounds_toArray,List.set_cons_zero,List.set_cons_succ]))
    iterate 1 ((with_reducible refine wpStill_step (fun K d=>?_));go_simp;(with_reducible refine d _ ?_);clear d K)
    refine wpStill_nil ?_
    go_wp2_with fail
    refine xv (by kernel_rfl) (by kernel_rfl) ?_
    iterate 7 ((with_reducible refine wpStill_step (fun K d=>?_));go_simp;(with_reducible refine d _ ?_);clear d K)
    iterate 7 ((with_reducible refine vd (by kernel_rfl) ?_);(try simp only[Act.put,List.setIfInBounds_toArray,List.set_cons_zero,List.set_cons_succ]))
    iterate 2 ((with_reducible refine wpStill_step (fun K d=>?_));go_simp;(with_reducible refine d _ ?_);clear d K)
    iterate 17 ((with_reducible refine vd (by kernel_rfl) ?_);(try simp only[Act.put,List.setIfInBounds_toArray,List.set_cons_zero,List.set_cons_succ]))
    iterate 1 ((with_reducible refine wpStill_step (fun K d=>?_));go_simp;(with_reducible refine d _ ?_);clear d K)
    refine wpStill_nil ?_
    go_wp2_with fail
    go_roundw
    case rel=>exact⟨t+1,m',E,by omega,by go_num,((ud am).later (O _ _).drew).later (O _ _).drew|>.later (O _ _).drew,(((ud F).drew).drew).drew⟩
    case measure=>simp[intOf];omega
  ·have aY:decide ((t:Int)<n2)=false:=by simp;omega
   obtain⟨na,nc,T⟩:=zL g.nrow
   have aU:=Yf m.L h.ok.seg.sts
   have aQ:=zcY m.L h.ok.seg.held1
   have aR:=h.held
   have c1:=kA 1 m.L
   have c2:=kA 2 m.L
   have c3:=kA 3 m.L
   have e1:IntKind.i64.wrap (ze m.L 2+ze m.L 3)=ze m.L 2+ze m.L 3:=by rw[IntKind.wrap_i64];omega
   have e2:IntKind.i64.wrap (2*(ze m.L 2+ze m.L 3))=2*(ze m.L 2+ze m.L 3):=by rw[IntKind.wrap_i64];omega
   have e3:IntKind.i64.wrap ((ns.length:Int)+2*(ze m.L 2+ze m.L 3))=(ns.length:Int)+2*(ze m.L 2+ze m.L 3):=by rw[IntKind.wrap_i64];omega
   have e4:IntKind.i64.wrap (ze m.L 1+2*(ze m.L 2+ze m.L 3))=ze m.L 1+2*(ze m.L 2+ze m.L 3):=by rw[IntKind.wrap_i64];omega
   have f1:zm m.L<=(ns.length:Int)+2*(ze m.L 2+ze m.L 3):=by omega
   have f2:ze m.L 1+2*(ze m.L 2+ze m.L 3)<=zm m.L:=by omega
   have H:=zd g
   have r:=zd aa
   clear j g h aa aU aQ aR
   go_wp2_with fail
   refine(ud A).mono ?_
   rintro e V1 ⟨rfl,f⟩
   have k:=f.alloc f.size (.cells #[I J m.now,I J (zm m.L),I J (zU (zO (zm m.L) c.qu)),I J 1,I J (ze m.L 1),I J (ze m.L 2),I J (ze m.L 3),I J m.Gl.length] 37)
   have l:=(ud H).later k
   have z:=zk V1 (.cells #[I J m.now,I J (zm m.L),I J (zU (zO (zm m.L) c.qu)),I J 1,I J (ze m.L 1),I J (ze m.L 2),I J (ze m.L 3),I J m.Gl.length] 37)
   have F:=zd ((ud r).trans (k.mono (ud r).size))
   have ac:=(l.cells).2.2.2.2.2.2.2.1
   rw[T,D]at ac
   have yl:=l.lt
   rw[D]at yl
   obtain⟨-,a1,-,-,a4,a5,a6,-⟩:=zc z
   have al:=za z
   clear f k l z x0 xl A T r H
   go_wp2_with fail
   generalize(V1.alloc (.cells #[I J m.now,I J (zm m.L),I J (zU (zO (zm m.L) c.qu)),I J 1,I J (ze m.L 1),I J (ze m.L 2),I J (ze m.L 3),I J m.Gl.length] 37))=U at*
   generalize aT:V1.1.size=nb at*
   refine xv (by kernel_rfl) (by kernel_rfl) ?_
   repeat still_step
   refine wpStill_nil ?_
   go_wp2_with fail
   go_ret
   exact⟨rfl,(ud F).drew⟩
end Go.Proofs.YtndhpgciopcncaaGreatDoor
