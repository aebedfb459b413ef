import Derived.Test.YtndhpgciopcncaaGreatDoorUCmq0
import Derived.Deep.RegionHeld3
open Go.Value renaming int → I
open Nat renaming le_trans → J
open Go.IntKind renaming i64 → K
open Go.RowKit.Below renaming refl → O
open Go.IntKind (i32)
set_option linter.unusedVariables false
set_option maxRecDepth 20000
set_option maxHeartbeats 8000000
namespace Go.Proofs.YtndhpgciopcncaaGreatDoor
open Go.RowKit Go.Maps Go.Shelf
def zgv(w w':World)(B p:Nat)(c:Cf)(ep:Int)(m:MS)(ns:List Nm)(j:Nat):Prop:=∃m' a,qP c ep m ns m' a/\vF w' B p c ep m' a (j+1)/\Bel B w w'/\((m'=m/\a=ns/\c.qu<zp m.L+1+2*c.n)\/∃x,a=ns++[x]/\zp m.L<zp m'.L/\zp m'.L<=zp m.L+1+2*c.n)
theorem KF:(Tryz.prog.info? 87).map (fun i=>(i.zero,i.size,i.bytes))=some (some (.agg #[I K 0,I K 0,I i32 0]),3,24):=by kernel_rfl
theorem kw(U:World)(o:Obj):U.1.size<=(U.alloc o).drew.1.size:=by show U.1.size<=(U.alloc o).1.size;rw[zL];omega
theorem Qu{X V:World}(h:Below X.drew.1.size X.drew V):Below X.1.size X V:=⟨h.os,h.tape,h.output,h.size,h.block⟩
theorem zfK{w:World}{B p:Nat}{c:Cf}{ep:Int}{m:MS}{ns:List Nm}{j:Nat}(hs:vF w B p c ep m ns j)(E:c.ok)(hf:c.fits)(kd a b v:Int)(ha: -9223372036854775808<=a/\a<=9223372036854775807)(hbb: -9223372036854775808<=b/\b<=9223372036854775807)(hv: -2147483648<=v/\v<=2147483647)(hj:j<4398046511104):
  Calls Tryz.prog 39 #[.pointer (some ⟨p,0,none⟩),.agg #[I K kd,I K a,I K b,I i32 v]] w fun e w'=>e=.returned (.bool true)/\zgv w w' B p c ep m ns j:=by
 have D:=hs.size
 obtain⟨⟨sp,si,sd,aJ,aL,aK,aM⟩,k,rfl,h,hk,C,ao,au⟩:=hs
 dsimp only at*
 obtain⟨na,nc,aq⟩:=zS h.nrow
 dsimp only at aq
 subst aq
 have av:B<=sp:=h.lo
 have aB:=E.la
 have aI:=E.qu
 have aD:=E.n4
 have a4:=C.ok.now
 obtain⟨g,a1,b1,P1⟩:=xS a 4 ha (by omega)
 obtain⟨s,a2,b2,P2⟩:=xS b (c.la+1) hbb (by omega)
 have ak:=fun W=>zd (P1 W)
 have al:=fun W=>zd (P2 W)
 have ag:Below w.1.size w (w.alloc (.cells #[I K kd,I K a,I K b,I i32 v] 33)):=(O _ _).alloc (Nat.le_refl _) _
 have q0:=zm w (.cells #[I K kd,I K a,I K b,I i32 v] 33)
 have hX:=h.later ag
 obtain⟨-,-,-,c4,-,-,c9,-,-,-⟩:=hX.cells
 dsimp only at c4 c9
 obtain⟨-,o1,o2,o3,-⟩:=zc q0
 have ol:=za q0
 have pl:=hX.lt
 dsimp only at pl
 have e1:IntKind.i64.wrap (c.la+1)=c.la+1:=by rw[IntKind.wrap_i64];omega
 have e2:IntKind.i64.wrap (m.now-s)=m.now-s:=by rw[IntKind.wrap_i64];omega
 have HX:=zd hX
 have ae:=zd (Bel.of ag D)
 clear h hX ag q0 P1 P2
 go_enter Tryz.func39,Tryz.ntmps39
 go_wp2_with fail
 generalize(w.alloc (.cells #[I K kd,I K a,I K b,I i32 v] 33))=X at*
 rename_i K1 hK1
 refine(fun am:K1 ?aa ?ww=>?main) ?E
 case main=>
  go_region_held3 (fun w'=>w'.cell? ⟨w.1.size,1,none⟩=some (I K a)/\w'.cell? ⟨w.1.size,2,none⟩=some (I K b)/\w'.cell? ⟨w.1.size,3,none⟩=some (I i32 v)/\w'.cell? ⟨sp,9,none⟩=some (I K m.now)/\w'.cell? ⟨sp,4,none⟩=some (I K c.la)) (go_keep) (first
   |(go_at_call 31;(first|(with_reducible refine(ud (ak _)).mono ?_)|(with_reducible refine(ud (al _)).mono ?_));rintro e W ⟨rfl,hw⟩;subst hw))
  all_goals exact am
 case E=>
  refine hK1 _ _ ?_
  clear hK1 ak al o1 o2 o3 c4 c9
  have nx:=zm X (.cells #[I K g,I K (m.now-s),I i32 v] 87)
  have ac:Below X.1.size X (X.alloc (.cells #[I K g,I K (m.now-s),I i32 v] 87)).drew:=((O _ _).alloc (Nat.le_refl _) _).drew
  have P:(X.alloc (.cells #[I K g,I K (m.now-s),I i32 v] 87)).drew.1[X.1.size]?=some (.cells #[I K g,I K (m.now-s),I i32 v] 87 (0,0)):=nx
  have a7:=(ud HX).later ac
  have ab:=(ud ae).trans (Bel.of ac (J D (ud ae).size))
  have aH:¬X.1.size=sp:=by omega
  have aA:¬sp=X.1.size:=by omega
  obtain⟨-,aC,-⟩:=zc P
  have aF:=fun j=>zE P j
  have aG:=za P
  generalize(X.alloc (.cells #[I K g,I K (m.now-s),I i32 v] 87)).drew=Z at*
  generalize aE:X.1.size=nb at*
  by_cases ar:m.now-s<0
  ·have an:=Zt Z nb 1 (I K 0)
   have G:Hid ((Z.setCell ⟨nb,1,none⟩ (I K 0)).1[nb]?=some (.cells #[I K g,I K 0,I i32 v] 87 (0,0))):=xy (i:=1) P (I K 0)
   have f:=zd (a7.kept an (fun q hq e=>by have:=(ud HX).foot_lt q hq;omega) (fun q hq e=>a7.mill.tag P (by decide) (e▸hq)) (fun e=>by have h9:=(ud HX).mill.tab.lt;have e9:Qh=nb:=e;omega))
   have F:=zd (ab.trans (Bel.set (i:=1) P (by decide) (by have:=(ud ae).size;omega) (I K 0)))
   clear nx ac P a7 ab an
   go_wp2_with fail
   generalize(Z.setCell ⟨nb,1,none⟩ (I K 0))=Y at*
   have R:0<=g/\g<4:=⟨a1,b1⟩
   have S:(0:Int)<=0/\0<=m.now:=by omega
   have A:m.now-c.la<=0:=by omega
   obtain⟨y0,-,-,-,-,-,-,ai,-,-⟩:=(ud f).cells
   dsimp only at y0 ai
   obtain⟨n0,n1,n2,-⟩:=zc (ud G)
   have nl:=za (ud G)
   have yl:=(ud f).lt
   dsimp only at yl
   have N:∀q:Nat,q<c.n->zQ m.Gl (xW c g (0) q)=none:=fun q hq=>C.ok.not_gone E (x:=⟨g,0,v⟩) A (t:=(q:Int)) (by omega) (by omega)
   have a9:=C.ok.seg.u0 E
   have ax:=qS c m.L ⟨g,0,v⟩ c.n
   by_cases l:zp m.L+(1+2*yi c m.L ⟨g,0,v⟩ c.n)<=c.qu
   ·have U:=zd (J4 (((ud f).later (O _ _).drew).mill) E g (0) v R S A a4.2 hv ⟨a9.1,by omega⟩ C.ok.seg.st N l (by have:=C.ok.seg.len400 E;omega) (C.ok.small E))
    have HO:=zd C
    clear N C
    refine xo 10 (by kernel_rfl) (by kernel_rfl) ?_
    simp only[List.take_succ_cons,List.take_zero,List.drop_succ_cons,List.drop_zero]
    repeat still_step
    refine wpStill_nil ?_
    go_wp2_with(first|(go_at_call 27;refine(ud U).mono ?_;rintro e V ⟨rfl,hM,hK⟩;have M:Kx si Y V:=((ud f).mill.below (O _ _).drew).trans hK;have d:=(ud f).putMill hM M;have aj:=(d.cells).2.2.2.2.2.2.2.1;dsimp only at aj;have z:=M.kept.heap (ud G) ((ud f).mill.tag (ud G) (by decide));obtain⟨m0,m1,m2,-⟩:=zc z;have az:=za z;have vl:=d.lt;dsimp only at vl;have vf:=fun j=>zE d.head j;dsimp only at vf;have H:=zd d;have u:=zd ((ud F).trans (Bel.mill (ud f).mill M (J D (ud F).size) (ud f).mlo));clear hM hK M d z))
    have T:=zd ((ud H).nrow)
    go_region_law (refine kZ rfl (.tmp 48) (.tmp 50) 40 87 3 24 rfl Tryz.underlying40 KF rfl (by decide) B (.slice na ns.length nc) ns.length (ns.flatMap nmV) (by simp[Act.eval]) (je ((ud T).alloc _)) V.1.size [I K g,I K (0),I i32 v] 87 (0,0) (by simp[Act.eval]) (jd V _) rfl (by simp[Value.oneCell']) ?h63 ?hby ?hbs ?_;(case h63=>(simp only[maxLen];omega));(case hby=>omega);(case hbs=>exact J (J D (ud u).size) (kw _ _));intro g3 a6 w5 r o a8 ap;have a3:zo (fun k'=>(Value.slice na ns.length nc).ownBlock=some k') V w5:=zo.grown ((zo.refl _ _).alloc _) (vn o) (fun k hk _=>hk);have Q:=a3.heap ((ud H).head) (fun e=>zu (ud H).head (ud T) (by decide) _ e rfl);obtain⟨-,-,-,-,-,-,-,-,-,-,aw,-⟩:=zc Q;have df:=fun j=>zE Q j;have dl:=za Q;dsimp only at df dl;have a5:=zd r;have a0:=zd a3;have ad:=zd a8;clear r a3 Q o a8)
    all_goals
     go_wp2_with fail
     go_ret
     have d:=ud H
     have r:w5.ownsRow B 87 3 (.slice (some ⟨g3,0,none⟩) (ns.length+1) a6) (ns++[(⟨g,0,v⟩:Nm)]).length ((ns++[(⟨g,0,v⟩:Nm)]).flatMap nmV):=by
      rw[List.length_append,List.flatMap_append]
      exact ud a5
     have af:=d.setNums (ud a0) r (fun q hq=>by
      have e:g3=q:=by simpa[Value.ownBlock]using hq
      subst e
      rcases ud ad with h|h
      ·exact .inl h
      ·right;rw[h];exact kw _ _)
     have ah:Bel B w w5:=(ud u).trans (Bel.row d.nrow (by decide) (ud a0) (J D (ud u).size))
     have hA:qP c ep m ns {m with L:=kL c m.L ⟨g,0,v⟩} (ns++[⟨g,0,v⟩]):=qP.added m ns ⟨g,0,v⟩ R S A hv l
     have hU:=((ud HO).ingest E hf (x:=⟨g,0,v⟩) R S A hv l).2
     refine⟨rfl,_,_,hA,⟨_,k,rfl,af,hk,hA.ok E hf (ud HO),by omega,by simp;omega⟩,ah.trans (Bel.set ((ud a0).heap d.head (fun e=>zu d.head d.nrow (by decide) _ e rfl)) (by decide) av _),.inr ⟨⟨g,0,v⟩,rfl,?_,?_⟩⟩
     ·show _<zp (kL c m.L ⟨g,0,v⟩);omega
     ·show zp (kL c m.L ⟨g,0,v⟩)<=_;omega
   ·have U:=zd (KM (((ud f).later (O _ _).drew).mill) E g (0) v R S A a4.2 hv ⟨a9.1,by omega⟩ C.ok.seg.st N (by omega))
    have HO:=zd C
    clear N C
    refine xo 10 (by kernel_rfl) (by kernel_rfl) ?_
    simp only[List.take_succ_cons,List.take_zero,List.drop_succ_cons,List.drop_zero]
    repeat still_step
    refine wpStill_nil ?_
    go_wp2_with(first|(go_at_call 27;refine(ud U).mono ?_;rintro e V ⟨rfl,y⟩;have u:=zd y;clear y))
    go_ret
    have y:Below Y.1.size Y V:=Qu (ud u)
    exact⟨rfl,m,ns,qP.same m ns,vF.mono ⟨_,k,rfl,(ud f).later y,hk,ud HO,ao,au⟩ (Nat.le_succ j),(ud F).trans (Bel.of y (J D (ud F).size)),.inl ⟨rfl,rfl,by omega⟩⟩
  ·have ay:decide (m.now-s<0)=false:=by simpa using ar
   have G:=zd P
   have f:=zd a7
   have F:=zd ab
   clear nx ac P a7 ab
   go_wp2_with fail
   generalize Z=Y at*
   have R:0<=g/\g<4:=⟨a1,b1⟩
   have S:(0:Int)<=(m.now-s)/\(m.now-s)<=m.now:=by omega
   have A:m.now-c.la<=(m.now-s):=by omega
   obtain⟨y0,-,-,-,-,-,-,ai,-,-⟩:=(ud f).cells
   dsimp only at y0 ai
   obtain⟨n0,n1,n2,-⟩:=zc (ud G)
   have nl:=za (ud G)
   have yl:=(ud f).lt
   dsimp only at yl
   have N:∀q:Nat,q<c.n->zQ m.Gl (xW c g ((m.now-s)) q)=none:=fun q hq=>C.ok.not_gone E (x:=⟨g,(m.now-s),v⟩) A (t:=(q:Int)) (by omega) (by omega)
   have a9:=C.ok.seg.u0 E
   have ax:=qS c m.L ⟨g,(m.now-s),v⟩ c.n
   by_cases l:zp m.L+(1+2*yi c m.L ⟨g,(m.now-s),v⟩ c.n)<=c.qu
   ·have U:=zd (J4 (((ud f).later (O _ _).drew).mill) E g ((m.now-s)) v R S A a4.2 hv ⟨a9.1,by omega⟩ C.ok.seg.st N l (by have:=C.ok.seg.len400 E;omega) (C.ok.small E))
    have HO:=zd C
    clear N C
    refine xo 10 (by kernel_rfl) (by kernel_rfl) ?_
    simp only[List.take_succ_cons,List.take_zero,List.drop_succ_cons,List.drop_zero]
    repeat still_step
    refine wpStill_nil ?_
    go_wp2_with(first|(go_at_call 27;refine(ud U).mono ?_;rintro e V ⟨rfl,hM,hK⟩;have M:Kx si Y V:=((ud f).mill.below (O _ _).drew).trans hK;have d:=(ud f).putMill hM M;have aj:=(d.cells).2.2.2.2.2.2.2.1;dsimp only at aj;have z:=M.kept.heap (ud G) ((ud f).mill.tag (ud G) (by decide));obtain⟨m0,m1,m2,-⟩:=zc z;have az:=za z;have vl:=d.lt;dsimp only at vl;have vf:=fun j=>zE d.head j;dsimp only at vf;have H:=zd d;have u:=zd ((ud F).trans (Bel.mill (ud f).mill M (J D (ud F).size) (ud f).mlo));clear hM hK M d z))
    have T:=zd ((ud H).nrow)
    go_region_law (refine kZ rfl (.tmp 48) (.tmp 50) 40 87 3 24 rfl Tryz.underlying40 KF rfl (by decide) B (.slice na ns.length nc) ns.length (ns.flatMap nmV) (by simp[Act.eval]) (je ((ud T).alloc _)) V.1.size [I K g,I K ((m.now-s)),I i32 v] 87 (0,0) (by simp[Act.eval]) (jd V _) rfl (by simp[Value.oneCell']) ?h63 ?hby ?hbs ?_;(case h63=>(simp only[maxLen];omega));(case hby=>omega);(case hbs=>exact J (J D (ud u).size) (kw _ _));intro g3 a6 w5 r o a8 ap;have a3:zo (fun k'=>(Value.slice na ns.length nc).ownBlock=some k') V w5:=zo.grown ((zo.refl _ _).alloc _) (vn o) (fun k hk _=>hk);have Q:=a3.heap ((ud H).head) (fun e=>zu (ud H).head (ud T) (by decide) _ e rfl);obtain⟨-,-,-,-,-,-,-,-,-,-,aw,-⟩:=zc Q;have df:=fun j=>zE Q j;have dl:=za Q;dsimp only at df dl;have a5:=zd r;have a0:=zd a3;have ad:=zd a8;clear r a3 Q o a8)
    all_goals
     go_wp2_with fail
     go_ret
     have d:=ud H
     have r:w5.ownsRow B 87 3 (.slice (some ⟨g3,0,none⟩) (ns.length+1) a6) (ns++[(⟨g,(m.now-s),v⟩:Nm)]).length ((ns++[(⟨g,(m.now-s),v⟩:Nm)]).flatMap nmV):=by
      rw[List.length_append,List.flatMap_append]
      exact ud a5
     have af:=d.setNums (ud a0) r (fun q hq=>by
      have e:g3=q:=by simpa[Value.ownBlock]using hq
      subst e
      rcases ud ad with h|h
      ·exact .inl h
      ·right;rw[h];exact kw _ _)
     have ah:Bel B w w5:=(ud u).trans (Bel.row d.nrow (by decide) (ud a0) (J D (ud u).size))
     have hA:qP c ep m ns {m with L:=kL c m.L ⟨g,(m.now-s),v⟩} (ns++[⟨g,(m.now-s),v⟩]):=qP.added m ns ⟨g,(m.now-s),v⟩ R S A hv l
     have hU:=((ud HO).ingest E hf (x:=⟨g,(m.now-s),v⟩) R S A hv l).2
     refine⟨rfl,_,_,hA,⟨_,k,rfl,af,hk,hA.ok E hf (ud HO),by omega,by simp;omega⟩,ah.trans (Bel.set ((ud a0).heap d.head (fun e=>zu d.head d.nrow (by decide) _ e rfl)) (by decide) av _),.inr ⟨⟨g,(m.now-s),v⟩,rfl,?_,?_⟩⟩
     ·show _<zp (kL c m.L ⟨g,(m.now-s),v⟩);omega
     ·show zp (kL c m.L ⟨g,(m.now-s),v⟩)<=_;omega
   ·have U:=zd (KM (((ud f).later (O _ _).drew).mill) E g ((m.now-s)) v R S A a4.2 hv ⟨a9.1,by omega⟩ C.ok.seg.st N (by omega))
    have HO:=zd C
    clear N C
    refine xo 10 (by kernel_rfl) (by kernel_rfl) ?_
    simp only[List.take_succ_cons,List.take_zero,List.drop_succ_cons,List.drop_zero]
    repeat still_step
    refine wpStill_nil ?_
    go_wp2_with(first|(go_at_call 27;refine(ud U).mono ?_;rintro e V ⟨rfl,y⟩;have u:=zd y;clear y))
    go_ret
    have y:Below Y.1.size Y V:=Qu (ud u)
    exact⟨rfl,m,ns,qP.same m ns,vF.mono ⟨_,k,rfl,(ud f).later y,hk,ud HO,ao,au⟩ (Nat.le_succ j),(ud F).trans (Bel.of y (J D (ud F).size)),.inl ⟨rfl,rfl,by omega⟩⟩
end Go.Proofs.YtndhpgciopcncaaGreatDoor
