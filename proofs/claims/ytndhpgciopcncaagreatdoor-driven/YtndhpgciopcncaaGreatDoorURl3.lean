import Derived.Test.YtndhpgciopcncaaGreatDoorUStp9
import Derived.Test.YtndhpgciopcncaaGreatDoorURl2
open Go.Value renaming int → I
open Go.IntKind renaming i64 → J
open Nat renaming lt_of_lt_of_le → O
open Go.RowKit.Below renaming refl → E
open Option renaming none → Z
open Go.IntKind (i32)
set_option linter.unusedVariables false
set_option maxRecDepth 20000
set_option maxHeartbeats 8000000
namespace Go.Proofs.YtndhpgciopcncaaGreatDoor
open Go.RowKit Go.Maps Go.Shelf
theorem zcu{tm wd:Int}(f:0<=tm)(g:tm<=100000)(h:1<=wd/\wd<=1000):0<=tm/wd/\tm/wd<=100000/\0<=(tm/wd+1)*wd/\(tm/wd+1)*wd<=101000:=by
 have a:=Int.ediv_nonneg f (show 0<=wd by omega)
 have b:tm/wd<=tm:=Int.ediv_le_self _ f
 have c:=Int.ediv_mul_le tm (show wd≠0 by omega)
 have d:(tm/wd+1)*wd=tm/wd*wd+wd:=by rw[Int.add_mul,Int.one_mul]
 have e:=Int.mul_nonneg a (show 0<=wd by omega)
 omega
theorem zdJ{w:World}{B:Nat}{s:Shp}{c:Cf}{ep:Int}{m:MS}{ns:List Nm}{ks:List Tok}{us:List Int}(h:zI w B s c ep m m.now ns ks us)(D:c.ok)(hf:c.fits)(hm:MOk c ep m)(hi:vy c m ns)(aO:ns.length<4398046511104)(x:Nm)(hx:x∈ns)(t:Int)(F: -1<=t/\t<c.n)(C:Bool)
  (aj:C=true->(xB c m.now m.Gl m.L t x.sr (x.tm/c.wt t)).2≠11/\((xB c m.now m.Gl m.L t x.sr (x.tm/c.wt t)).2=0->(x.tm/c.wt t+1)*c.wt t+c.keep t<=m.now->Y3 c m t x)):
  Calls Tryz.prog 42 #[.pointer (some ⟨s.p,0,Z⟩),I J t,.agg #[I J x.sr,I J x.tm,I i32 x.val],.bool C] w fun e w'=>e=.returned (.bool true)/\Below w.1.size w w':=by
 obtain⟨x1,x2,x3,x4,x5,x6⟩:=hi.tm x hx
 have a6:=hm.now
 have aT:=D.wt F.1 F.2
 obtain⟨w1,w2,w3,w4⟩:=zcu (tm:=x.tm) (wd:=c.wt t) x1 (by omega) aT
 have hT:=hi.told D hf hm hx F.1 F.2
 have aP:∀y∈ns,0<=y.tm/\y.tm<=100000/\ -2147483648<=y.val/\y.val<=2147483647:=fun y hy=>by have:=hi.tm y hy;omega
 have av:Below w.1.size w (w.alloc (.cells #[I J x.sr,I J x.tm,I i32 x.val] 87)):=(E _ _).alloc (Nat.le_refl _) _
 have q0:=zm w (.cells #[I J x.sr,I J x.tm,I i32 x.val] 87)
 have hS:=h.later av
 have HS:=zd hS
 have b4:=zd av
 have Q0:=zd q0
 have aB:=za q0
 obtain⟨n0,n1,-⟩:=zc q0
 have ap:=fun W (e:Below (w.alloc (.cells #[I J x.sr,I J x.tm,I i32 x.val] 87)).1.size (w.alloc (.cells #[I J x.sr,I J x.tm,I i32 x.val] 87)) W)=>zd (QW (hS.later e) D t F.1 F.2)
 have aR:IntKind.i64.wrap (x.tm.tdiv (c.wt t))=x.tm/c.wt t:=by rw[Int.tdiv_eq_ediv_of_nonneg x1,IntKind.wrap_i64];omega
 have bm:¬c.wt t=0:=by omega
 have HT:=zd hT
 have b:=zd aj
 have b5:=zd aP
 have HI:=zd hi
 clear h hT aj aP av q0 hS hi hm hf
 go_enter Tryz.func42,Tryz.ntmps42
 go_wp2_with fail
 generalize(w.alloc (.cells #[I J x.sr,I J x.tm,I i32 x.val] 87))=X at*
 refine yN (by kernel_rfl) (by kernel_rfl) ?_
 iterate 4 ((with_reducible refine wpStill_step (fun K hK=>?_));go_simp;(with_reducible refine hK _ ?_);clear hK K)
 still_call (ud (ap _ (E _ _).drew))
 iterate 2 ((with_reducible refine wpStill_step (fun K hK=>?_));go_simp;(with_reducible refine hK _ ?_);clear hK K)
 refine wpStill_nil ?_
 generalize aU:x.tm/c.wt t=wn at*
 have aq:=zd aU
 clear aU aR
 obtain⟨R,ad⟩:∃R,(wn+1)*c.wt t=R:=⟨_,rfl⟩
 rw[ad]at w3 w4 b
 have u:wrap64 ((wn+1)*c.wt t)=R:=by rw[ad];unfold wrap64;omega
 have aF:=zd ad
 have ah:=zd u
 clear ad u
 have ac:=ud HS
 obtain⟨aK,-,-,aL,-,-,aM,-,-,-⟩:=ac.cells
 have aQ:=ac.lt
 go_wp2_with fail
 refine(ud (ap _ (E _ _).drew)).mono ?_
 rintro e V0 ⟨rfl,rfl⟩
 generalize ar:xB c m.now m.Gl m.L t x.sr wn=Q at*
 have ab:=zd (ac.later (E _ _).drew)
 have aJ:Hid (Below X.1.size X X.drew):=(E _ _).drew
 have aH:=zd aB
 have bh:X.drew.1.size=X.1.size:=rfl
 clear ac aT bh
 have c0:X.drew.cell? ⟨s.p,0,Z⟩=some (.pointer (some ⟨s.i.x,0,Z⟩)):=aK
 have c4:X.drew.cell? ⟨s.p,4,Z⟩=some (I J c.la):=aL
 have c9:X.drew.cell? ⟨s.p,9,Z⟩=some (I J m.now):=aM
 have ag:X.drew.cell? ⟨w.1.size,0,Z⟩=some (I J x.sr):=n0
 have f:s.p<X.drew.1.size:=aQ
 have o:w.1.size<X.drew.1.size:=aB
 have al:Hid (Below w.1.size w X.drew):=(ud b4).drew
 clear aK aL aM n0 n1 aQ aB HS ap
 generalize X.drew=U at*
 go_wp2_with fail
 have u:=ud ah
 simp only[u]
 clear u ah
 have aw:Below U.1.size U (U.alloc (.cells #[I J 0,I J 0,I i32 0,I i32 0] 115)).drew:=((E _ _).alloc (Nat.le_refl _) _).drew
 have aV:U.1.size<(U.alloc (.cells #[I J 0,I J 0,I i32 0,I i32 0] 115)).drew.1.size:=by show U.1.size<(U.alloc (.cells #[I J 0,I J 0,I i32 0,I i32 0] 115)).1.size;rw[zL];omega
 have aN:(U.alloc (.cells #[I J 0,I J 0,I i32 0,I i32 0] 115)).drew.1[U.1.size]?=some (.cells #[I J 0,I J 0,I i32 0,I i32 0] 115 (0,0)):=zm U _
 have a9:=zd (yT ((ud ab).later aw).mill D a6 t x.sr wn F ⟨x3,x4⟩ ⟨w1,w2⟩)
 have a8:=zd (yT ((ud ab).later (E _ _).drew).mill D a6 t x.sr wn F ⟨x3,x4⟩ ⟨w1,w2⟩)
 rw[ar]at a9 a8
 have bk:=zd ar
 have ak:=zd aw
 have aE:=zd aN
 have be:¬s.p=U.1.size:=by omega
 have aS:¬w.1.size=U.1.size:=by omega
 clear aw aN ar
 obtain⟨⟨Q1,H,M,N⟩,QE⟩:=Q
 dsimp only at a9 a8 b
 rename_i K1 hK1
 refine(fun ai:∀(z:Nat) (Y:World),U.1.size<=z->Y.1[z]?=some (Xp ⟨Q1,H,M,N⟩)->Below U.1.size U Y->K1 ((?aa:Nat->Act) z) Y=>?main) ?D
 case main=>
  have P:=zd ai
  clear ai
  go_region_held3 (fun w'=>w'.cell? ⟨s.p,0,Z⟩=some (.pointer (some ⟨s.i.x,0,Z⟩))/\w'.cell? ⟨w.1.size,0,Z⟩=some (I J x.sr)) (first|go_keep|exact⟨(vo (by assumption)).trans (by assumption),(vo (by assumption)).trans (by assumption)⟩) (first
   |(go_at_call 57;(with_reducible refine(ud a9).mono ?_);rintro e V ⟨rfl,G⟩;have a:Below U.1.size U V:=(ud ak).trans (G.mono (ud ak).size);have af:=(G.block U.1.size aV).trans (ud aE);obtain⟨z0,z1,z2,z3,-⟩:=zc af;have zf:=fun j=>zE af j;have v0:=(a.cell (p:=⟨s.p,0,Z⟩) f).trans c0;have v1:=(a.cell (p:=⟨w.1.size,0,Z⟩) o).trans ag;have vl:=O f a.size;have vq:=O o a.size;have g:=zd a;have b8:=zd af;clear a G af)
   |(go_at_call 57;(with_reducible refine(ud a8).mono ?_);rintro e V ⟨rfl,G⟩;have a:Below U.1.size U V:=Qu G;have v0:=(a.cell (p:=⟨s.p,0,Z⟩) f).trans c0;have v1:=(a.cell (p:=⟨w.1.size,0,Z⟩) o).trans ag;have vl:=O f a.size;have vq:=O o a.size;have bn:¬s.p=V.1.size:=(by omega);have bo:¬w.1.size=V.1.size:=(by omega);have g:=zd a;clear a G))
  all_goals(first
   |(have hP:=(ud g).alloc (ud g).size (.cells #[I J Q1,I J H,I i32 M,I i32 N] 115);have hR:=zm V (.cells #[I J Q1,I J H,I i32 M,I i32 N] 115);have hL:=(ud g).size;generalize(V.alloc (.cells #[I J Q1,I J H,I i32 M,I i32 N] 115))=Y at hP hR ⊢;generalize V.1.size=z at hR hL ⊢;exact ud P z Y hL hR hP)
   |(have hP:=zce (ud g) (Nat.le_refl U.1.size) (I J Q1) (I J H) (I i32 M) (I i32 N);have hR:=YL (ud b8) (I J Q1) (I J H) (I i32 M) (I i32 N);have hL:=Nat.le_refl U.1.size;generalize((((V.setCell ⟨U.1.size,0,Z⟩ (I J Q1)).setCell ⟨U.1.size,1,Z⟩ (I J H)).setCell ⟨U.1.size,2,Z⟩ (I i32 M)).setCell ⟨U.1.size,3,Z⟩ (I i32 N))=Y at hP hR ⊢;have CL:=zd (ud P);generalize bp:U.1.size=z at hR hL ⊢;exact ud P z Y (by omega) hR hP))
 case D=>
  intro z Y bl hR q
  refine hK1 _ _ ?_
  clear a8 a9 ak aE aV
  have au:=(ud ab).later q
  have y4:=(q.cell (p:=⟨s.p,4,Z⟩) f).trans c4
  have y9:=(q.cell (p:=⟨s.p,9,Z⟩) f).trans c9
  have aY:=O f q.size
  have bc:0<=c.keep t/\c.keep t<=1000:=by
   unfold Cf.keep
   split
   ·exact D.ke
   ·exact D.K _ (by omega)
  obtain⟨k1,k2⟩:=bc
  obtain⟨aW,aX⟩:=a6
  obtain⟨bq,br⟩:=D.la
  have aG:=zd (zdE (au.later (E _ _).drew.drew) D t F.1 F.2)
  have aI:=zd au
  have HR:=zd hR
  have am:=zd q
  have y0:=(q.cell (p:=⟨w.1.size,0,Z⟩) o).trans ag
  have aZ:=O o q.size
  have Y0:=zd y0
  clear au hR q c0 c4 c9 ag f o be aS y0
  go_wp2_with fail
  go_still (by kernel_rfl)
  go_wp2_with fail
  refine yN (by kernel_rfl) (by kernel_rfl) ?_
  iterate 3 ((with_reducible refine wpStill_step (fun K hK=>?_));go_simp;(with_reducible refine hK _ ?_);clear hK K)
  still_call (ud aG)
  iterate 7 ((with_reducible refine wpStill_step (fun K hK=>?_));go_simp;(with_reducible refine hK _ ?_);clear hK K)
  refine wpStill_nil ?_
  clear aG y4 y9
  have e1:IntKind.i64.wrap (m.now-c.la)=m.now-c.la:=by rw[IntKind.wrap_i64];omega
  have e2:IntKind.i64.wrap (R+c.keep t)=R+c.keep t:=by rw[IntKind.wrap_i64];omega
  simp only[e1,e2]
  clear e1 e2
  have r:c.clo m.now (zB c t x)↔R<=m.now-c.la:=by
   unfold Cf.clo zB
   dsimp only
   rw[ud aq,ud aF]
  have y0:Y.drew.drew.cell? ⟨w.1.size,0,Z⟩=some (I J x.sr):=ud Y0
  have bf:w.1.size<Y.drew.drew.1.size:=aZ
  have bj:s.p<Y.drew.drew.1.size:=aY
  have ao:Hid (Y.drew.drew.1[z]?=some (Xp ⟨Q1,H,M,N⟩)):=ud HR
  have l:Hid (Below w.1.size w Y.drew.drew):=(ud al).trans (((ud am).drew.drew).mono (ud al).size)
  have an:Hid (Y.drew.drew.1[w.1.size]?=some (.cells #[I J x.sr,I J x.tm,I i32 x.val] 87 (0,0))):=((ud am).drew.drew.block _ (O (ud aH) (ud aJ).size)).trans ((ud aJ).block _ (ud aH)|>.trans (ud Q0))
  have A:=zd ((ud aI).later (E _ _).drew.drew)
  clear Y0 aZ aY HR am aI ab al
  have hT:=ud HT
  clear HT
  generalize ae:R+c.keep t=ek at*
  rcases hT with⟨S,h2⟩|⟨S,h2,h3⟩|⟨S,h2,h3⟩|⟨S,h2,h3,h4⟩
  ·injection h2 with T a4
   subst a4
   have v:decide (R<=m.now-c.la)=false:=by simpa using fun e=>S (r.2 e)
   simp only[v]
   clear r S T ae b
   go_wp2_with fail
   go_ret
   exact⟨rfl,ud l⟩
  ·subst h2
   have v:decide (R<=m.now-c.la)=true:=by simpa using r.1 S
   simp only[v]
   clear r S
   have HC:=zd (zdx (ud A) D t F x.sr wn (ud b5) aO)
   have b7:Hid (C=true->ek<=m.now->Y3 c m t x):=fun h=>(ud b h).2 rfl
   clear b
   have H3:Hid (IsC (fun y=>y.sr=x.sr/\y.tm/c.wt t=wn) ns ⟨Q1,H,M,N⟩):=h3.congr (fun y _=>by
    unfold zB
    simp only[Sg.mk.injEq,true_and,ud aq])
   clear h3
   go_wp2_with fail
   refine(ud HC).mono ?_
   rintro e V ⟨d,hd,rfl,a⟩
   have ba:d=⟨Q1,H,M,N⟩:=hd.one (ud H3)
   subst ba
   dsimp only
   clear hd HC H3
   have a5:Below Y.drew.drew.1.size Y.drew.drew (V.alloc (.cells #[I J Q1,I J H,I i32 M,I i32 N] 115)):=a.alloc a.size _
   have aC:=(a5.block z (za (ud ao))).trans (ud ao)
   have ay:=zm V (.cells #[I J Q1,I J H,I i32 M,I i32 N] 115)
   have az:=(a5.block w.1.size bf).trans (ud an)
   obtain⟨a0,a1,a2,a3,-⟩:=zc aC
   obtain⟨b0,b1,b2,b3,-⟩:=zc ay
   obtain⟨n0,n1,n2,-⟩:=zc az
   have lz:=za aC
   have ld:=za ay
   have ln:=za az
   have b6:=zd ((ud A).later a5)
   have g:=zd ((ud l).trans (a5.mono (ud l).size))
   clear a5 aC ay az a y0 A l an ao
   cases C with
   |false=>
    go_wp2_with fail
    go_ret
    exact⟨rfl,ud g⟩
   |true=>
    by_cases a7:ek<=m.now
    ·have aA:decide (ek<=m.now)=true:=by simpa using a7
     have bg:Y3 c m t x:=by
      have h:=ud b7
      first|exact h rfl a7|exact h a7
     have HW:=zd (QV (ud b6) D ⟨aW,aX⟩ t F x ⟨x1,by omega⟩ ⟨x3,x4⟩)
     go_wp2_with fail
     refine(ud HW).mono ?_
     rintro e V2 ⟨⟨bb,rfl,hbb⟩,a⟩
     have ax:bb=true:=hbb.2 bg
     subst ax
     have aD:=zd ((ud g).trans (a.mono (ud g).size))
     clear a HW hbb
     go_wp2_with fail
     go_ret
     exact⟨rfl,ud aD⟩
    ·have aA:decide (ek<=m.now)=false:=by simpa using a7
     clear a7
     go_wp2_with fail
     go_ret
     exact⟨rfl,ud g⟩
  ·injection h2 with T a4
   subst a4
   have v:decide (R<=m.now-c.la)=true:=by simpa using r.1 S
   have b9:C=false:=by
    cases C with
    |false=>rfl
    |true=>exact absurd rfl (ud b rfl).1
   subst b9
   simp only[v]
   clear r S T ae b
   go_wp2_with fail
   go_ret
   exact⟨rfl,ud l⟩
  ·injection h2 with T a4
   subst a4
   have v:decide (R<=m.now-c.la)=true:=by simpa using r.1 S
   have aA:decide (ek<=m.now)=true:=by
    have:ek<=m.now:=by
     rw[<-ae,<-ud aF,<-ud aq];exact h3
    simpa using this
   have bd:¬Y3 c m t x:=fun⟨k,hk,hF,q0,bi⟩=>by
    have:=h4 k hk hF
    rw[yv]at this
    exact this.elim q0 bi
   simp only[v,aA]
   clear r S T ae b h3 h4
   have HW:=zd (QV (ud A) D ⟨aW,aX⟩ t F x ⟨x1,by omega⟩ ⟨x3,x4⟩)
   obtain⟨-,y1,y2,-⟩:=zc (ud an)
   go_wp2_with fail
   refine(ud HW).mono ?_
   rintro e V ⟨⟨bb,rfl,hbb⟩,a⟩
   have ax:bb=false:=by
    cases bb with
    |false=>rfl
    |true=>exact absurd (hbb.1 rfl) bd
   subst ax
   have g:=zd ((ud l).trans (a.mono (ud l).size))
   clear a HW hbb
   go_wp2_with fail
   go_ret
   exact⟨rfl,ud g⟩
end Go.Proofs.YtndhpgciopcncaaGreatDoor
