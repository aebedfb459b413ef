import Derived.Test.YtndhpgciopcncaaGreatDoorVMlg1
import Derived.Deep.RegionHeld3
import Derived.StillTactics
open Go.Value renaming int → I
open Go.IntKind renaming i64 → J
open Nat renaming le_trans → K
open Go.RowKit.Below renaming refl → O
open Option renaming some → E
open Option renaming none → Q
open Go renaming World → N
open Nat renaming le_refl → S
open Go.IntKind (i32)
set_option linter.unusedVariables false
set_option maxRecDepth 20000
set_option maxHeartbeats 8000000
open Go.Proofs.Tryz
namespace Go.Proofs.YtndhpgciopcncaaGreatDoor
open Go.RowKit Go.Maps Go.Shelf
def zhe(w w':N)(B p:Nat)(c:Cf)(ep:Int)(m:MS)(ns:List Nm)(j:Nat):Prop:=∃m' a,yn c ep m ns m' a/\vC w' B p c ep m' a (j+1)/\Bel B w w'/\((m'=m/\a=ns/\c.qu<zm m.L+1+2*c.n)\/∃x,a=ns++[x]/\zm m.L<zm m'.L/\zm m'.L<=zm m.L+1+2*c.n)
theorem KN:(prog.info? 87).map (fun i=>(i.zero,i.size,i.bytes))=E (E (.agg #[I J 0,I J 0,I i32 0]),3,24):=by kernel_rfl
theorem ku(U:N)(o:Obj):U.1.size<=(U.alloc o).drew.1.size:=by show U.1.size<=(U.alloc o).1.size;rw[zI];omega
theorem ZS{X V:N}(h:Below X.drew.1.size X.drew V):Below X.1.size X V:=⟨h.os,h.tape,h.output,h.size,h.block⟩
theorem zgu{w:N}{B p:Nat}{c:Cf}{ep:Int}{m:MS}{ns:List Nm}{j:Nat}(hs:vC w B p c ep m ns j)(F:c.ok)(hf:c.fits)(kd a b v:Int)(ha: -9223372036854775808<=a/\a<=9223372036854775807)(hbb: -9223372036854775808<=b/\b<=9223372036854775807)(hv: -2147483648<=v/\v<=2147483647)(hj:j<4398046511104):
  Calls prog 39 #[.pointer (E ⟨p,0,Q⟩),.agg #[I J kd,I J a,I J b,I i32 v]] w fun e w'=>e=.returned (.bool true)/\zhe w w' B p c ep m ns j:=by
 have D:=hs.size
 obtain⟨⟨sp,si,sd,aN,aP,aO,aQ⟩,k,rfl,h,hk,C,au,ay⟩:=hs
 dsimp only at*
 obtain⟨na,nc,aw⟩:=zL h.nrow
 dsimp only at aw
 subst aw
 have az:B<=sp:=h.lo
 have aF:=F.la
 have aM:=F.qu
 have aH:=F.n4
 have a8:=C.ok.now
 obtain⟨g,a1,b1,P1⟩:=xT a 4 ha (by omega)
 obtain⟨s,a2,b2,P2⟩:=xT b (c.la+1) hbb (by omega)
 have ao:=fun W=>zd (P1 W)
 have ap:=fun W=>zd (P2 W)
 have ak:Below w.1.size w (w.alloc (.cells #[I J kd,I J a,I J b,I i32 v] 33)):=(O _ _).alloc (S _) _
 have q0:=zk w (.cells #[I J kd,I J a,I J b,I i32 v] 33)
 have hX:=h.later ak
 obtain⟨-,-,-,c4,-,-,c9,-,-,-⟩:=hX.cells
 dsimp only at c4 c9
 obtain⟨-,o1,o2,o3,-⟩:=zc q0
 have ol:=za q0
 have pl:=hX.lt
 dsimp only at pl
 have e1:IntKind.i64.wrap (c.la+1)=c.la+1:=by rw[IntKind.wrap_i64];omega
 have e2:IntKind.i64.wrap (m.now-s)=m.now-s:=by rw[IntKind.wrap_i64];omega
 have HX:=zd hX
 have ai:=zd (Bel.of ak D)
 clear h hX ak q0 P1 P2
 go_enter func39,ntmps39
 go_wp2_with fail
 generalize(w.alloc (.cells #[I J kd,I J a,I J b,I i32 v] 33))=X at*
 rename_i K1 hK1
 refine(fun aq:K1 ?aa ?ww=>?main) ?F
 case main=>
  go_region_held3 (fun w'=>w'.cell? ⟨w.1.size,1,Q⟩=E (I J a)/\w'.cell? ⟨w.1.size,2,Q⟩=E (I J b)/\w'.cell? ⟨w.1.size,3,Q⟩=E (I i32 v)/\w'.cell? ⟨sp,9,Q⟩=E (I J m.now)/\w'.cell? ⟨sp,4,Q⟩=E (I J c.la)) (go_keep) (first
   |(go_at_call 31;(first|(with_reducible refine(ud (ao _)).mono ?_)|(with_reducible refine(ud (ap _)).mono ?_));rintro e W ⟨rfl,hw⟩;subst hw))
  all_goals exact aq
 case F=>
  refine hK1 _ _ ?_
  clear hK1 ao ap o1 o2 o3 c4 c9
  have nx:=zk X (.cells #[I J g,I J (m.now-s),I i32 v] 87)
  have ag:Below X.1.size X (X.alloc (.cells #[I J g,I J (m.now-s),I i32 v] 87)).drew:=((O _ _).alloc (S _) _).drew
  have T:(X.alloc (.cells #[I J g,I J (m.now-s),I i32 v] 87)).drew.1[X.1.size]?=E (.cells #[I J g,I J (m.now-s),I i32 v] 87 (0,0)):=nx
  have ac:=(ud HX).later ag
  have af:=(ud ai).trans (Bel.of ag (K D (ud ai).size))
  have aL:¬X.1.size=sp:=by omega
  have aE:¬sp=X.1.size:=by omega
  obtain⟨-,aG,-⟩:=zc T
  have aJ:=fun j=>zC T j
  have aK:=za T
  generalize(X.alloc (.cells #[I J g,I J (m.now-s),I i32 v] 87)).drew=Z at*
  generalize aI:X.1.size=nb at*
  by_cases ax:m.now-s<0
  ·have ar:=ZH Z nb 1 (I J 0)
   have H:Hid ((Z.setCell ⟨nb,1,Q⟩ (I J 0)).1[nb]?=E (.cells #[I J g,I J 0,I i32 v] 87 (0,0))):=xy (i:=1) T (I J 0)
   have f:=zd (ac.kept ar (fun q hq e=>by have:=(ud HX).foot_lt q hq;omega) (fun q hq e=>ac.mill.tag T (by decide) (e▸hq)) (fun e=>by have h9:=(ud HX).mill.tab.lt;have e9:Qm=nb:=e;omega))
   have G:=zd (af.trans (Bel.set (i:=1) T (by decide) (by have:=(ud ai).size;omega) (I J 0)))
   clear nx ag T ac af ar
   go_wp2_with fail
   generalize(Z.setCell ⟨nb,1,Q⟩ (I J 0))=Y at*
   have a0:0<=g/\g<4:=⟨a1,b1⟩
   have a3:(0:Int)<=0/\0<=m.now:=by omega
   have A:m.now-c.la<=0:=by omega
   obtain⟨y0,-,-,-,-,-,-,am,-,-⟩:=(ud f).cells
   dsimp only at y0 am
   obtain⟨n0,n1,n2,-⟩:=zc (ud H)
   have nl:=za (ud H)
   have yl:=(ud f).lt
   dsimp only at yl
   have R:∀q:Nat,q<c.n->zY m.Gl (xX c g (0) q)=Q:=fun q hq=>C.ok.not_gone F (x:=⟨g,0,v⟩) A (t:=(q:Int)) (by omega) (by omega)
   have ae:=C.ok.seg.u0 F
   have aB:=qS c m.L ⟨g,0,v⟩ c.n
   by_cases l:zm m.L+(1+2*yk c m.L ⟨g,0,v⟩ c.n)<=c.qu
   ·have a5:=zd (Ji (((ud f).later (O _ _).drew).mill) F g (0) v a0 a3 A a8.2 hv ⟨ae.1,by omega⟩ C.ok.seg.st R l (by have:=C.ok.seg.len400 F;omega) (C.ok.small F))
    have HO:=zd C
    clear R C
    refine xh 10 (by kernel_rfl) (by kernel_rfl) ?_
    simp only[List.take_succ_cons,List.take_zero,List.drop_succ_cons,List.drop_zero]
    repeat still_step
    refine wpStill_nil ?_
    go_wp2_with(first|(go_at_call 27;refine(ud a5).mono ?_;rintro e V ⟨rfl,hM,hK⟩;have P:Kx si Y V:=((ud f).mill.below (O _ _).drew).trans hK;have d:=(ud f).putMill hM P;have an:=(d.cells).2.2.2.2.2.2.2.1;dsimp only at an;have z:=P.kept.heap (ud H) ((ud f).mill.tag (ud H) (by decide));obtain⟨m0,m1,m2,-⟩:=zc z;have aD:=za z;have vl:=d.lt;dsimp only at vl;have vf:=fun j=>zC d.head j;dsimp only at vf;have M:=zd d;have u:=zd ((ud G).trans (Bel.mill (ud f).mill P (K D (ud G).size) (ud f).mlo));clear hM hK P d z))
    have a4:=zd ((ud M).nrow)
    go_region_law (refine kZ rfl (.tmp 48) (.tmp 50) 40 87 3 24 rfl underlying40 KN rfl (by decide) B (.slice na ns.length nc) ns.length (ns.flatMap nmV) (by simp[Act.eval]) (jh ((ud a4).alloc _)) V.1.size [I J g,I J (0),I i32 v] 87 (0,0) (by simp[Act.eval]) (jg V _) rfl (by simp[Value.oneCell']) ?h63 ?hby ?hbs ?_;(case h63=>(simp only[maxLen];omega));(case hby=>omega);(case hbs=>exact K (K D (ud u).size) (ku _ _));intro g3 ab w5 r o ad av;have a7:zo (fun k'=>(Value.slice na ns.length nc).ownBlock=E k') V w5:=zo.grown ((zo.refl _ _).alloc _) (vo o) (fun k hk _=>hk);have U:=a7.heap ((ud M).head) (fun e=>zu (ud M).head (ud a4) (by decide) _ e rfl);obtain⟨-,-,-,-,-,-,-,-,-,-,aA,-⟩:=zc U;have df:=fun j=>zC U j;have dl:=za U;dsimp only at df dl;have a9:=zd r;have a6:=zd a7;have ah:=zd ad;clear r a7 U o ad)
    all_goals
     go_wp2_with fail
     go_ret
     have d:=ud M
     have r:w5.ownsRow B 87 3 (.slice (E ⟨g3,0,Q⟩) (ns.length+1) ab) (ns++[(⟨g,0,v⟩:Nm)]).length ((ns++[(⟨g,0,v⟩:Nm)]).flatMap nmV):=by
      rw[List.length_append,List.flatMap_append]
      exact ud a9
     have aj:=d.setNums (ud a6) r (fun q hq=>by
      have e:g3=q:=by simpa[Value.ownBlock]using hq
      subst e
      rcases ud ah with h|h
      ·exact .inl h
      ·right;rw[h];exact ku _ _)
     have al:Bel B w w5:=(ud u).trans (Bel.row d.nrow (by decide) (ud a6) (K D (ud u).size))
     have hA:yn c ep m ns {m with L:=kN c m.L ⟨g,0,v⟩} (ns++[⟨g,0,v⟩]):=yn.added m ns ⟨g,0,v⟩ a0 a3 A hv l
     have hU:=((ud HO).ingest F hf (x:=⟨g,0,v⟩) a0 a3 A hv l).2
     refine⟨rfl,_,_,hA,⟨_,k,rfl,aj,hk,hA.ok F hf (ud HO),by omega,by simp;omega⟩,al.trans (Bel.set ((ud a6).heap d.head (fun e=>zu d.head d.nrow (by decide) _ e rfl)) (by decide) az _),.inr ⟨⟨g,0,v⟩,rfl,?_,?_⟩⟩
     ·show _<zm (kN c m.L ⟨g,0,v⟩);omega
     ·show zm (kN c m.L ⟨g,0,v⟩)<=_;omega
   ·have a5:=zd (KU (((ud f).later (O _ _).drew).mill) F g (0) v a0 a3 A a8.2 hv ⟨ae.1,by omega⟩ C.ok.seg.st R (by omega))
    have HO:=zd C
    clear R C
    refine xh 10 (by kernel_rfl) (by kernel_rfl) ?_
    simp only[List.take_succ_cons,List.take_zero,List.drop_succ_cons,List.drop_zero]
    repeat still_step
    refine wpStill_nil ?_
    go_wp2_with(first|(go_at_call 27;refine(ud a5).mono ?_;rintro e V ⟨rfl,y⟩;have u:=zd y;clear y))
    go_ret
    have y:Below Y.1.size Y V:=ZS (ud u)
    exact⟨rfl,m,ns,yn.same m ns,vC.mono ⟨_,k,rfl,(ud f).later y,hk,ud HO,au,ay⟩ (Nat.le_succ j),(ud G).trans (Bel.of y (K D (ud G).size)),.inl ⟨rfl,rfl,by omega⟩⟩
  ·have aC:decide (m.now-s<0)=false:=by simpa using ax
   have H:=zd T
   have f:=zd ac
   have G:=zd af
   clear nx ag T ac af
   go_wp2_with fail
   generalize Z=Y at*
   have a0:0<=g/\g<4:=⟨a1,b1⟩
   have a3:(0:Int)<=(m.now-s)/\(m.now-s)<=m.now:=by omega
   have A:m.now-c.la<=(m.now-s):=by omega
   obtain⟨y0,-,-,-,-,-,-,am,-,-⟩:=(ud f).cells
   dsimp only at y0 am
   obtain⟨n0,n1,n2,-⟩:=zc (ud H)
   have nl:=za (ud H)
   have yl:=(ud f).lt
   dsimp only at yl
   have R:∀q:Nat,q<c.n->zY m.Gl (xX c g ((m.now-s)) q)=Q:=fun q hq=>C.ok.not_gone F (x:=⟨g,(m.now-s),v⟩) A (t:=(q:Int)) (by omega) (by omega)
   have ae:=C.ok.seg.u0 F
   have aB:=qS c m.L ⟨g,(m.now-s),v⟩ c.n
   by_cases l:zm m.L+(1+2*yk c m.L ⟨g,(m.now-s),v⟩ c.n)<=c.qu
   ·have a5:=zd (Ji (((ud f).later (O _ _).drew).mill) F g ((m.now-s)) v a0 a3 A a8.2 hv ⟨ae.1,by omega⟩ C.ok.seg.st R l (by have:=C.ok.seg.len400 F;omega) (C.ok.small F))
    have HO:=zd C
    clear R C
    refine xh 10 (by kernel_rfl) (by kernel_rfl) ?_
    simp only[List.take_succ_cons,List.take_zero,List.drop_succ_cons,List.drop_zero]
    repeat still_step
    refine wpStill_nil ?_
    go_wp2_with(first|(go_at_call 27;refine(ud a5).mono ?_;rintro e V ⟨rfl,hM,hK⟩;have P:Kx si Y V:=((ud f).mill.below (O _ _).drew).trans hK;have d:=(ud f).putMill hM P;have an:=(d.cells).2.2.2.2.2.2.2.1;dsimp only at an;have z:=P.kept.heap (ud H) ((ud f).mill.tag (ud H) (by decide));obtain⟨m0,m1,m2,-⟩:=zc z;have aD:=za z;have vl:=d.lt;dsimp only at vl;have vf:=fun j=>zC d.head j;dsimp only at vf;have M:=zd d;have u:=zd ((ud G).trans (Bel.mill (ud f).mill P (K D (ud G).size) (ud f).mlo));clear hM hK P d z))
    have a4:=zd ((ud M).nrow)
    go_region_law (refine kZ rfl (.tmp 48) (.tmp 50) 40 87 3 24 rfl underlying40 KN rfl (by decide) B (.slice na ns.length nc) ns.length (ns.flatMap nmV) (by simp[Act.eval]) (jh ((ud a4).alloc _)) V.1.size [I J g,I J ((m.now-s)),I i32 v] 87 (0,0) (by simp[Act.eval]) (jg V _) rfl (by simp[Value.oneCell']) ?h63 ?hby ?hbs ?_;(case h63=>(simp only[maxLen];omega));(case hby=>omega);(case hbs=>exact K (K D (ud u).size) (ku _ _));intro g3 ab w5 r o ad av;have a7:zo (fun k'=>(Value.slice na ns.length nc).ownBlock=E k') V w5:=zo.grown ((zo.refl _ _).alloc _) (vo o) (fun k hk _=>hk);have U:=a7.heap ((ud M).head) (fun e=>zu (ud M).head (ud a4) (by decide) _ e rfl);obtain⟨-,-,-,-,-,-,-,-,-,-,aA,-⟩:=zc U;have df:=fun j=>zC U j;have dl:=za U;dsimp only at df dl;have a9:=zd r;have a6:=zd a7;have ah:=zd ad;clear r a7 U o ad)
    all_goals
     go_wp2_with fail
     go_ret
     have d:=ud M
     have r:w5.ownsRow B 87 3 (.slice (E ⟨g3,0,Q⟩) (ns.length+1) ab) (ns++[(⟨g,(m.now-s),v⟩:Nm)]).length ((ns++[(⟨g,(m.now-s),v⟩:Nm)]).flatMap nmV):=by
      rw[List.length_append,List.flatMap_append]
      exact ud a9
     have aj:=d.setNums (ud a6) r (fun q hq=>by
      have e:g3=q:=by simpa[Value.ownBlock]using hq
      subst e
      rcases ud ah with h|h
      ·exact .inl h
      ·right;rw[h];exact ku _ _)
     have al:Bel B w w5:=(ud u).trans (Bel.row d.nrow (by decide) (ud a6) (K D (ud u).size))
     have hA:yn c ep m ns {m with L:=kN c m.L ⟨g,(m.now-s),v⟩} (ns++[⟨g,(m.now-s),v⟩]):=yn.added m ns ⟨g,(m.now-s),v⟩ a0 a3 A hv l
     have hU:=((ud HO).ingest F hf (x:=⟨g,(m.now-s),v⟩) a0 a3 A hv l).2
     refine⟨rfl,_,_,hA,⟨_,k,rfl,aj,hk,hA.ok F hf (ud HO),by omega,by simp;omega⟩,al.trans (Bel.set ((ud a6).heap d.head (fun e=>zu d.head d.nrow (by decide) _ e rfl)) (by decide) az _),.inr ⟨⟨g,(m.now-s),v⟩,rfl,?_,?_⟩⟩
     ·show _<zm (kN c m.L ⟨g,(m.now-s),v⟩);omega
     ·show zm (kN c m.L ⟨g,(m.now-s),v⟩)<=_;omega
   ·have a5:=zd (KU (((ud f).later (O _ _).drew).mill) F g ((m.now-s)) v a0 a3 A a8.2 hv ⟨ae.1,by omega⟩ C.ok.seg.st R (by omega))
    have HO:=zd C
    clear R C
    refine xh 10 (by kernel_rfl) (by kernel_rfl) ?_
    simp only[List.take_succ_cons,List.take_zero,List.drop_succ_cons,List.drop_zero]
    repeat still_step
    refine wpStill_nil ?_
    go_wp2_with(first|(go_at_call 27;refine(ud a5).mono ?_;rintro e V ⟨rfl,y⟩;have u:=zd y;clear y))
    go_ret
    have y:Below Y.1.size Y V:=ZS (ud u)
    exact⟨rfl,m,ns,yn.same m ns,vC.mono ⟨_,k,rfl,(ud f).later y,hk,ud HO,au,ay⟩ (Nat.le_succ j),(ud G).trans (Bel.of y (K D (ud G).size)),.inl ⟨rfl,rfl,by omega⟩⟩
def zeS(w w':N)(B p:Nat)(c:Cf)(ep:Int)(m:MS)(ns:List Nm)(j:Nat):Prop:=∃m',yn c ep m ns m' ns/\vC w' B p c ep m' ns (j+1)/\Bel B w w'/\(m'.num=m.num\/m'.num=m.num+1)
theorem zdm:(prog.info? 49).map (fun i=>(i.zero,i.size,i.bytes))=E (E (.agg #[I J 0,I J 0]),2,16):=by kernel_rfl
theorem zdl:(prog.info? 3).map (fun i=>(i.zero,i.size,i.bytes))=E (E (I J 0),1,8):=by kernel_rfl
theorem zgF{w:N}{B:Nat}{v:Value}{ep:Int}{k:Nat}(h:w.ownsRow B 49 2 v (vW ep k).length ((vW ep k).flatMap zbV)):w.ownsRow B 49 2 v k ((vW ep k).flatMap zbV):=by rw[zF]at h;exact h
theorem zgJ{w:N}{B:Nat}{v:Value}{ep:Int}{QL:List (Tok×Lse)}{k:Nat}(h:w.ownsRow B 3 1 v (qV ep QL k).length ((qV ep QL k).map (I J))):w.ownsRow B 3 1 v k ((qV ep QL k).map (I J)):=by rw[zV]at h;exact h
theorem Vz{w:N}{B p:Nat}{c:Cf}{ep:Int}{m:MS}{ns:List Nm}{j:Nat}(hs:vC w B p c ep m ns j)(hc:c.ok)(hf:c.fits)(aA:xg ep)(slot:Int)(av:0<=slot/\slot<c.s)(hj:j<4398046511104):
  Calls prog 40 #[.pointer (E ⟨p,0,Q⟩),I J slot] w fun e w'=>e=.returned (.bool true)/\zeS w w' B p c ep m ns j:=by
 have u:=hs.size
 obtain⟨⟨Z,si,sd,ah,ai,b0,b1⟩,k,rfl,h,hk,ho,ao,aq⟩:=hs
 dsimp only at*
 obtain⟨ka,kc,ae⟩:=zL h.krow
 obtain⟨ua,uc,ag⟩:=zL h.urow
 rw[zF]at ae
 rw[zV]at ag
 dsimp only at ae ag
 subst ae
 subst ag
 have aw:B<=Z:=h.lo
 have aD:=hc.le
 have a1:=ho.ok.now
 have hu:=ho.ok.seg.u0 hc
 have F:=zd (KW h.mill hc slot av a1 ho.tsk (by have:=ho.ok.q800 hc;omega) ⟨by omega,by omega⟩ aA ho.qn ⟨hu.1,by omega⟩)
 rw[hk]at F
 obtain⟨c0,-,-,-,-,-,-,-,-,-⟩:=h.cells
 dsimp only at c0
 have au:=h.lt
 dsimp only at au
 have H:=zd h
 have HO:=zd ho
 have aQ:(k:Int)<=4398046511104:=by omega
 obtain⟨aT,aU⟩:=av
 obtain⟨aW,aX⟩:=a1
 obtain⟨aR,aS⟩:=aD
 clear h ho
 go_enter func40,ntmps40
 go_wp2_with fail
 refine(ud F).mono ?_
 rintro e V (⟨rfl,P,az⟩|⟨rfl,P,aC⟩|⟨a,aF,aB,rfl,hM,hK⟩)
 ·clear F
  go_wp2_with fail
  go_ret
  have M:=P.alloc P.size (.cells #[I J 0,I J 0,I J 0,I J 0,I J 0,I J 0,I J 0,I J 0,I J 0,I J 0,I J 0] 51)
  exact⟨rfl,m,yn.same m ns,vC.mono ⟨_,k,rfl,(ud H).later M,hk,ud HO,ao,aq⟩ (Nat.le_succ j),Bel.of M u,.inl rfl⟩
 ·clear F
  go_wp2_with fail
  go_ret
  have M:=P.alloc P.size (.cells #[I J 0,I J 0,I J 0,I J 0,I J 0,I J 0,I J 0,I J 0,I J 0,I J 0,I J 0] 51)
  exact⟨rfl,m,yn.same m ns,vC.mono ⟨_,k,rfl,(ud H).later M,hk,ud HO,ao,aq⟩ (Nat.le_succ j),Bel.of M u,.inl rfl⟩
 ·clear F
  have a8:zM V B ⟨Z,si,sd,ah,ai,.slice ka k kc,.slice ua k uc⟩ c ep {m with num:=(k:Int)+1,QL:=qr m.QL ⟨ep,(k:Int)+1⟩ ⟨a.2.kd,a.2.s,slot,m.now+c.le⟩} m.now ns (vW ep k) (qV ep m.QL k):=(ud H).putMill hM hK
  have hA:=(O V.1.size V).alloc (S _) (.cells #[I J a.2.kd,I J a.2.s.t,I J a.2.s.sr,I J a.2.s.wa,I J a.2.se,I J a.2.ti,I J a.2.rest,I J ep,I J ((k:Int)+1),I J slot,I J (m.now+c.le)] 51)
  have al:=a8.later hA
  have ab:Bel B w V:=Bel.mill (ud H).mill hK u (ud H).mlo
  have a3:=zd (ab.alloc (K u ab.size) (.cells #[I J a.2.kd,I J a.2.s.t,I J a.2.s.sr,I J a.2.s.wa,I J a.2.se,I J a.2.ti,I J a.2.rest,I J ep,I J ((k:Int)+1),I J slot,I J (m.now+c.le)] 51))
  have a4:=zd (zk V (.cells #[I J a.2.kd,I J a.2.s.t,I J a.2.s.sr,I J a.2.s.wa,I J a.2.se,I J a.2.ti,I J a.2.rest,I J ep,I J ((k:Int)+1),I J slot,I J (m.now+c.le)] 51))
  have ak:=zd al
  have a0:Hid (yn c ep m ns {m with num:=(k:Int)+1,QL:=qr m.QL ⟨ep,(k:Int)+1⟩ ⟨a.2.kd,a.2.s,slot,m.now+c.le⟩} ns):=by
   have:=yn.taken (c:=c) (ep:=ep) m ns a slot aF aB
   rw[hk]at this
   exact this
  have aL:Z<V.1.size:=a8.lt
  have ar:¬V.1.size=Z:=by omega
  have aK:¬Z=V.1.size:=by omega
  clear a8 al hA ab hM hK c0 au
  go_wp2_with fail
  generalize(V.alloc (.cells #[I J a.2.kd,I J a.2.s.t,I J a.2.s.sr,I J a.2.s.wa,I J a.2.se,I J a.2.ti,I J a.2.rest,I J ep,I J ((k:Int)+1),I J slot,I J (m.now+c.le)] 51))=Y at*
  generalize aP:V.1.size=jb at*
  go_loopw [7] (fun y wr=>∃(t:Nat),t<=k/\y=I J t/\Below Y.1.size Y wr) (fun y _=>k-(intOf y).toNat)
  case atStart=>exact⟨0,Nat.zero_le _,rfl,O _ _⟩
  case round=>
   obtain⟨t,aV,rfl,C⟩:=hrel
   have v:=(ud ak).later C
   have L:=(C.block _ (za (ud a4))).trans (ud a4)
   have a7:=(ud a3).trans (Bel.of C (K u (ud a3).size))
   obtain⟨-,-,x3,-,-,-,x9,-,ax,R⟩:=v.cells
   dsimp only at x3 x9 ax R
   have xl:=v.lt
   dsimp only at xl
   have xf:=fun j=>zC v.head j
   dsimp only at xf
   obtain⟨-,-,-,-,-,-,-,j7,j8,-⟩:=zc L
   have jl:=za L
   by_cases af:t<k
   ·have aI:(t:Int)<k:=by omega
    obtain⟨g,gc,ac,aO,am,an⟩:=qK v.krow (j:=t) (by rw[zF];exact af)
    rw[zF]at ac
    dsimp only at ac
    cases ac
    have x:(vW ep k)[t]'(by rw[zF];exact af)=⟨ep,(t:Int)+1⟩:=(List.getElem?_eq_some_iff.1 (ko ep k t af)).2
    rw[x]at am an
    dsimp only at am an
    have aJ:((t:Int)+1==(k:Int)+1)=false:=by simp;omega
    have aE:((t:Int)==(k:Int))=false:=by simp;omega
    have A:=zd C
    clear v L a7 C x
    go_wp2_with fail
    go_still (by kernel_rfl)
    go_wp2_with fail
    go_roundw
    case rel=>exact⟨t+1,by omega,by go_num,(ud A).drew⟩
    case measure=>simp[intOf];omega
   ·have aH:decide ((t:Int)<k)=false:=by simp;omega
    have W:=zd v
    have a5:=zd L
    have A:=zd a7
    have i:=zd v.krow
    clear v L a7 C ak a4 a3
    go_wp2_with fail
    rename_i K9 hK9
    refine(fun G:∀(g3 l:Nat) (T:N),Hid (zM T B ⟨Z,si,sd,ah,ai,.slice (E ⟨g3,0,Q⟩) (k+1) l,.slice ua k uc⟩ c ep {m with num:=(k:Int)+1,QL:=qr m.QL ⟨ep,(k:Int)+1⟩ ⟨a.2.kd,a.2.s,slot,m.now+c.le⟩} m.now ns (vW ep (k+1)) (qV ep m.QL k))->Hid (T.1[jb]?=E (.cells #[I J a.2.kd,I J a.2.s.t,I J a.2.s.sr,I J a.2.s.wa,I J a.2.se,I J a.2.ti,I J a.2.rest,I J ep,I J ((k:Int)+1),I J slot,I J (m.now+c.le)] 51 (0,0)))->Hid (Bel B w T)->K9 ((?aa:Nat->Nat->Act) g3 l) T=>?main) ?hc
    case main=>
     go_region_law (refine kZ rfl (.tmp 48) (.tmp 51) 41 49 2 16 rfl underlying41 zdm rfl (by decide) B (.slice ka k kc) k ((vW ep k).flatMap zbV) (by simp[Act.eval]) (jh ((zgF (ud i)).alloc _)) wr.1.size [I J ep,I J ((k:Int)+1)] 49 (0,0) (by simp[Act.eval]) (jg wr _) rfl (by simp[Value.oneCell']) ?h63 ?hby ?hbs ?_;(case h63=>(simp only[maxLen];omega));(case hby=>omega);(case hbs=>exact K (K u (ud A).size) (ku _ _));intro g3 l w5 f d x ap;have z:zo (fun k'=>(Value.slice ka k kc).ownBlock=E k') wr w5:=zo.grown ((zo.refl _ _).alloc _) (vo d) (fun k hk _=>hk);have r:=z.heap ((ud W).head) (fun e=>zu (ud W).head (ud i) (by decide) _ e rfl);obtain⟨-,-,-,-,-,-,-,-,-,-,-,aM,-⟩:=zc r;have df:=fun j=>zC r j;have dl:=za r;dsimp only at df dl;have D:=zd f;have o:=zd z;have a2:=zd x;clear f z r d x)
     all_goals
      have b:=ud W
      have f:w5.ownsRow B 49 2 (.slice (E ⟨g3,0,Q⟩) (k+1) l) (vW ep k++[(⟨ep,(k:Int)+1⟩:Tok)]).length ((vW ep k++[(⟨ep,(k:Int)+1⟩:Tok)]).flatMap zbV):=by
       rw[List.length_append,zF,List.flatMap_append]
       exact ud D
      have X:=b.setToks (ud o) f (fun q hq=>by
       have e:g3=q:=by simpa[Value.ownBlock]using hq
       subst e
       rcases ud a2 with h|h
       ·exact .inl h
       ·right;rw[h];exact ku _ _)
      rw[<-zez]at X
      have a9:Bel B w w5:=(ud A).trans (Bel.row b.krow (by decide) (ud o) (K u (ud A).size))
      have ad:=(ud o).heap (ud a5) (fun e=>zu (ud a5) b.krow (by decide) _ e rfl)
      exact G g3 l _ (zd X) (zd ((ZH w5 Z 11 _).heap ad ar)) (zd (a9.trans (Bel.set ((ud o).heap b.head (fun e=>zu b.head b.krow (by decide) _ e rfl)) (by decide) aw _)))
    case hc=>
     intro g3 l T HS HJ HB
     refine hK9 _ _ ?_
     try dsimp only
     clear hK9 W a5 A i x3 x9 ax R xl xf j7 j8 jl
     obtain⟨-,-,x3,-,-,-,x9,-,-,R⟩:=(ud HS).cells
     dsimp only at x3 x9 R
     have xl:=(ud HS).lt
     dsimp only at xl
     have xf:=fun j=>zC (ud HS).head j
     dsimp only at xf
     have i:=zd (ud HS).urow
     have aY:IntKind.i64.wrap (m.now+c.le)=m.now+c.le:=by rw[IntKind.wrap_i64];omega
     go_wp2_with fail
     rename_i KA hKA
     refine(fun G:∀(g4 n:Nat) (T:N),Hid (zM T B ⟨Z,si,sd,ah,ai,.slice (E ⟨g3,0,Q⟩) (k+1) l,.slice (E ⟨g4,0,Q⟩) (k+1) n⟩ c ep {m with num:=(k:Int)+1,QL:=qr m.QL ⟨ep,(k:Int)+1⟩ ⟨a.2.kd,a.2.s,slot,m.now+c.le⟩} m.now ns (vW ep (k+1)) (qV ep m.QL k++[m.now+c.le]))->Hid (T.1[jb]?=E (.cells #[I J a.2.kd,I J a.2.s.t,I J a.2.s.sr,I J a.2.s.wa,I J a.2.se,I J a.2.ti,I J a.2.rest,I J ep,I J ((k:Int)+1),I J slot,I J (m.now+c.le)] 51 (0,0)))->Hid (Bel B w T)->KA ((?bb:Nat->Nat->Act) g4 n) T=>?main2) ?hc2
     case main2=>
      go_region_law (refine kZ rfl (.tmp 59) (.tmp 70) 42 3 1 8 rfl underlying42 zdl rfl (by decide) B (.slice ua k uc) k ((qV ep m.QL k).map (I J)) (by simp[Act.eval]) (jh ((zgJ (ud i)).alloc _)) T.1.size [I J (m.now+c.le)] 3 (0,0) (by simp[Act.eval]) (jg T _) rfl (by simp[Value.oneCell']) ?h63 ?hby ?hbs ?_;(case h63=>(simp only[maxLen];omega));(case hby=>omega);(case hbs=>exact K (K u (ud HB).size) (ku _ _));intro g4 n w5 f d x ap;have z:zo (fun k'=>(Value.slice ua k uc).ownBlock=E k') T w5:=zo.grown ((zo.refl _ _).alloc _) (vo d) (fun k hk _=>hk);have r:=z.heap ((ud HS).head) (fun e=>zu (ud HS).head (ud i) (by decide) _ e rfl);obtain⟨-,-,-,d3,-,-,-,-,-,d9,-,-,aN,-⟩:=zc r;have df:=fun j=>zC r j;have dl:=za r;dsimp only at df dl;have D:=zd f;have o:=zd z;have a2:=zd x;clear f z r d x)
      all_goals
       have b:=ud HS
       have f:w5.ownsRow B 3 1 (.slice (E ⟨g4,0,Q⟩) (k+1) n) (qV ep m.QL k++[m.now+c.le]).length ((qV ep m.QL k++[m.now+c.le]).map (I J)):=by
        rw[List.length_append,zV,List.map_append]
        exact ud D
       have X:=b.setUnts (ud o) f (fun q hq=>by
        have e:g4=q:=by simpa[Value.ownBlock]using hq
        subst e
        rcases ud a2 with h|h
        ·exact .inl h
        ·right;rw[h];exact ku _ _)
       have a9:Bel B w w5:=(ud HB).trans (Bel.row b.urow (by decide) (ud o) (K u (ud HB).size))
       have ad:=(ud o).heap (ud HJ) (fun e=>zu (ud HJ) b.urow (by decide) _ e rfl)
       exact G g4 n _ (zd X) (zd ((ZH w5 Z 12 _).heap ad ar)) (zd (a9.trans (Bel.set ((ud o).heap b.head (fun e=>zu b.head b.urow (by decide) _ e rfl)) (by decide) aw _)))
     case hc2=>
      intro g4 n U a6 aj ay
      refine hKA _ _ ?_
      try dsimp only
      clear hKA HS HJ HB i x3 x9 R xl xf
      obtain⟨-,-,x3,-,-,-,x9,-,-,-⟩:=(ud a6).cells
      dsimp only at x3 x9
      have xl:=(ud a6).lt
      dsimp only at xl
      obtain⟨-,-,-,-,-,-,-,-,-,j9,aZ,-⟩:=zc (ud aj)
      have jl:=za (ud aj)
      go_wp2_with fail
      go_still (by kernel_rfl)
      go_wp2_with fail
      go_ret
      have b:=ud a6
      have aG:qV ep (qr m.QL ⟨ep,(k:Int)+1⟩ ⟨a.2.kd,a.2.s,slot,m.now+c.le⟩) (k+1)=qV ep m.QL k++[m.now+c.le]:=zgI (ud HO).ok.nq k _
      rw[<-aG]at b
      exact⟨rfl,_,ud a0,⟨_,k+1,rfl,b.later (O _ _).drew,by show(k:Int)+1=((k+1:Nat):Int);omega,(ud a0).ok hc hf (ud HO),by omega,by omega⟩,(ud ay).drew,.inr (by show(k:Int)+1=m.num+1;omega)⟩
def jJ(w w':N)(B p:Nat)(c:Cf)(ep:Int)(m:MS)(ns:List Nm)(j:Nat):Prop:=∃m',yn c ep m ns m' ns/\vC w' B p c ep m' ns j/\Bel B w w'
def Yh(w:N)(B p:Nat)(c:Cf)(ep:Int)(m:MS)(ns:List Nm)(j k:Nat):Prop:=∃s:Shp,s.p=p/\zM w B s c ep m m.now ns (vW ep k) (qV ep m.QL k)/\m.num=k/\SOk c ep m ns.length/\k<=j/\ns.length<=j
theorem Yh.size{w:N}{B p:Nat}{c:Cf}{ep:Int}{m:MS}{ns:List Nm}{j k:Nat}(h:Yh w B p c ep m ns j k):B<=w.1.size:=by
 obtain⟨s,rfl,a,_⟩:=h
 have:=a.lo;have:=a.lt;omega
theorem Z4(X:N)(g i:Nat)(v:Value):(X.setCell ⟨g,i,Q⟩ v).drew.1.size=X.1.size:=by
 have h:(X.setCell ⟨g,i,Q⟩ v).1.size=X.1.size:=by simp[World.setCell]
 exact h
theorem ZG{X:N}{g i k:Nat}{v:Value}(h:¬k=g):(X.setCell ⟨g,i,Q⟩ v).drew.1[k]?=X.1[k]?:=zD (w:=X) h
theorem Xu{X:N}{g i k j:Nat}{v:Value}(h:¬k=g):(X.setCell ⟨g,i,Q⟩ v).drew.cell? ⟨k,j,Q⟩=X.cell? ⟨k,j,Q⟩:=World.cell?_of_block (a:=⟨k,j,Q⟩) (ZG h)
theorem zdZ{w:N}{B p:Nat}{c:Cf}{ep:Int}{m:MS}{ns:List Nm}{j k:Nat}(hs:Yh w B p c ep m ns j k)(hc:c.ok)(hf:c.fits)(ay:xg ep)(kd a b v:Int)(i:Nat)(d:i<k)(r:Int)(aO:(k:Int)-1-r=i)(r0:0<=r/\r<k)(PK:∀W:N,Calls prog 31 #[I J a,I J k] W fun e w'=>e=.returned (I J r)/\w'=W)(hj:j<=4398046511104)(aj:kd=5)(ah:zY m.QL ⟨ep,(i:Int)+1⟩=Q):
  Calls prog 41 #[.pointer (E ⟨p,0,Q⟩),.agg #[I J kd,I J a,I J b,I i32 v]] w fun e w'=>e=.returned (.bool true)/\jJ w w' B p c ep m ns j:=by
 have x:=hs.size
 obtain⟨⟨sp,si,sd,aS,aU,aT,aV⟩,rfl,h,hk,ho,aA,aB⟩:=hs
 dsimp only at*
 obtain⟨r0,r1⟩:=r0
 have aP:B<=sp:=h.lo
 have an:=ho.ok.seg.u0 hc
 have aG:=ho.ok.seg.len400 hc
 have P:Below w.1.size w (w.alloc (.cells #[I J kd,I J a,I J b,I i32 v] 33)):=(O _ _).alloc (S _) _
 have q0:=zk w (.cells #[I J kd,I J a,I J b,I i32 v] 33)
 have o:=h.later P
 obtain⟨g,gc,U,az,R,T⟩:=qK o.krow (j:=i) (by rw[zF];exact d)
 obtain⟨l,ax,t,ai,a0,aC⟩:=jn o.urow (j:=i) (by rw[zV];exact d)
 rw[zF]at U
 rw[zV]at t
 dsimp only at U t
 subst U
 subst t
 have s:(vW ep k)[i]'(by rw[zF];exact d)=⟨ep,(i:Int)+1⟩:=(List.getElem?_eq_some_iff.1 (ko ep k i d)).2
 have ae:(qV ep m.QL k)[i]'(by rw[zV];exact d)=vu m.QL ⟨ep,(i:Int)+1⟩:=(List.getElem?_eq_some_iff.1 (kM ep m.QL k i d)).2
 rw[s]at R T
 rw[ae]at a0
 dsimp only at R T
 have u:=(o.setUnt (g:=l) (cap:=ax) (by rw[zV]) i 0).later (O _ _).drew
 obtain⟨x0,-,-,-,-,-,-,-,ap,aq⟩:=o.cells
 dsimp only at x0 ap aq
 have xl:=o.lt
 dsimp only at xl
 obtain⟨o0,o1,-⟩:=zc q0
 have ol:=za q0
 have ak:¬l=sp:=zu o.head o.urow (by decide) l rfl
 have aH:¬sp=l:=fun e=>ak e.symm
 have al:¬l=g:=fun e=>xo o.urow o.krow (by decide) l rfl (by simp[Value.ownBlock,e])
 have aI:¬g=l:=fun e=>al e.symm
 have aN:w.1.size<(w.alloc (.cells #[I J kd,I J a,I J b,I i32 v] 33)).1.size:=ol
 have am:¬l=w.1.size:=fun e=>by have:=h.foot_lt l (.inr (.inr (.inr (.inr rfl))));omega
 have M:¬w.1.size=l:=fun e=>am e.symm
 have e1:IntKind.i64.wrap ((k:Int)-1)=(k:Int)-1:=by rw[IntKind.wrap_i64];omega
 have e2:IntKind.i64.wrap ((k:Int)-1-r)=i:=by rw[IntKind.wrap_i64];omega
 have aF:(i:Int)<k:=by omega
 have aK:((k:Int)==0)=false:=by simp;omega
 have H:=zd (xI u.mill hc ⟨an.1,by omega⟩ (by omega))
 have G:=zd u
 have Q0:=zd q0
 have ag:Bel B w (w.alloc (.cells #[I J kd,I J a,I J b,I i32 v] 33)):=Bel.of P x
 have ar:=zd ag
 have HX:=zd o
 have au:=fun W=>zd (PK W)
 have HO:=zd ho
 have aD:B<=l:=(o.urow.lt l rfl).1
 clear h o P q0 u s ae ag ho PK
 have aL:(kd==5)=true:=by simp[aj]
 have ao:vu m.QL ⟨ep,(i:Int)+1⟩=0:=MOk.unt_none ah
 rw[ao]at a0
 clear aj
 go_enter func41,ntmps41
 go_wp2_with fail
 generalize(w.alloc (.cells #[I J kd,I J a,I J b,I i32 v] 33))=X at*
 refine wp_region_still_lit (by kernel_rfl) (by kernel_rfl) ?_
 repeat still_step
 still_call (ud (au _))
 repeat still_step
 refine wpStill_nil ?_
 go_wp2_with fail
 refine(ud H).mono ?_
 rintro e C ⟨rfl,F⟩
 have A:=zd F
 have aR:w.1.size<C.1.size:=Nat.lt_of_lt_of_le ol (K (Nat.le_of_eq (Z4 X l i (I J 0)).symm) F.size)
 have p0:=(F.cell (p:=⟨w.1.size,0,Q⟩) (by rw[Z4];exact ol)).trans ((Xu (i:=i) (v:=I J 0) M).trans o0)
 clear F H
 go_wp2_with fail
 have n:=((ud G).later (ud A)).later ((O C.1.size C).alloc (S _) (.cells #[I J m.now,I J (zm m.L),I J (zU (zO (zm m.L) c.qu)),I J ep,I J (ze m.L 1),I J (ze m.L 2),I J (ze m.L 3),I J m.Gl.length] 37))
 have ab:Bel B w (C.alloc (.cells #[I J m.now,I J (zm m.L),I J (zU (zO (zm m.L) c.qu)),I J ep,I J (ze m.L 1),I J (ze m.L 2),I J (ze m.L 3),I J m.Gl.length] 37)):=by
  have k1:=(Bel.unt (i:=i) (ud HX).urow (I J 0)).drew
  have k2:=(ud ar).trans k1
  have k3:=k2.trans (Bel.of (ud A) (K x k2.size))
  exact k3.alloc (K x k3.size) _
 have ad:=zk C (.cells #[I J m.now,I J (zm m.L),I J (zU (zO (zm m.L) c.qu)),I J ep,I J (ze m.L 1),I J (ze m.L 2),I J (ze m.L 3),I J m.Gl.length] 37)
 have D:C.1[w.1.size]?=E (.cells #[I J kd,I J a,I J b,I i32 v] 33 (0,0)):=((ud A).block _ (by rw[Z4];exact ol)).trans ((ZG M).trans (ud Q0))
 have ac:=(Below.heap_alloc _ (.cells #[I J m.now,I J (zm m.L),I J (zU (zO (zm m.L) c.qu)),I J ep,I J (ze m.L 1),I J (ze m.L 2),I J (ze m.L 3),I J m.Gl.length] 37) _ (za D)).trans D
 have aM:¬w.1.size=C.1.size:=by have:=za D;omega
 clear o0 o1 p0 x0 ap aq R T a0 aC az ai xl D A G
 generalize(C.alloc (.cells #[I J m.now,I J (zm m.L),I J (zU (zO (zm m.L) c.qu)),I J ep,I J (ze m.L 1),I J (ze m.L 2),I J (ze m.L 3),I J m.Gl.length] 37))=Z at*
 generalize aQ:C.1.size=wb at*
 obtain⟨z0,-,-,-,-,-,-,-,z11,-⟩:=n.cells
 dsimp only at z0 z11
 obtain⟨gz,aJ,V,aE,t0,t1⟩:=qK n.krow (j:=i) (by rw[zF];exact d)
 rw[zF]at V
 dsimp only at V
 cases V
 have s:(vW ep k)[i]'(by rw[zF];exact d)=⟨ep,(i:Int)+1⟩:=(List.getElem?_eq_some_iff.1 (ko ep k i d)).2
 rw[s]at t0 t1
 dsimp only at t0 t1
 have zl:=n.lt
 dsimp only at zl
 have aw:=zd n
 have a6:=zd ab
 have a8:=zd ad
 have a7:=zd ac
 have a9:=(n.later (O _ _).drew).mill
 have HC:=zd (zcQ a9 ⟨ep,(i:Int)+1⟩ ⟨ay,by unfold xg;dsimp only;omega⟩ ah)
 clear a9 n ab ad ac s
 refine xh 11 (by kernel_rfl) (by kernel_rfl) ?_
 simp only[List.take_succ_cons,List.take_zero,List.drop_succ_cons,List.drop_zero]
 repeat still_step
 refine wpStill_nil ?_
 go_wp2_with(first
  |(go_at_call 21;refine(ud HC).mono ?_;rintro e V2 ⟨rfl,af⟩;have z:Below Z.1.size Z V2:=ZS af;have q:=(ud aw).later z;have s0:=(q.cells).1;dsimp only at s0;have sl:=q.lt;dsimp only at sl;have a5:=zd ((z.block _ (za (ud a8))).trans (ud a8));have a3:=zd ((z.block _ (za (ud a7))).trans (ud a7));have a4:=zd (xI q.mill hc ⟨an.1,by omega⟩ (by omega));have av:=zd q;have a1:=zd ((ud a6).trans (Bel.of z (K x (ud a6).size)));clear af z q)
  |(go_at_call 15;refine(ud a4).mono ?_;rintro e V3 ⟨rfl,f⟩;have y:=(f.block _ (za (ud a5))).trans (ud a5);have Y:=(f.block _ (za (ud a3))).trans (ud a3);obtain⟨w0,w1,-⟩:=zc y;have w2:V3.cell? ⟨wb,2,Q⟩=E (I J (zU (zO (zm m.L) c.qu))):=(by rw[xD y];rfl);obtain⟨-,-,-,w3,w4,w5,w6,w7,-⟩:=zc y;have wl:=za y;obtain⟨p0,-⟩:=zc Y;have pl:=za Y;have a2:=zd f;clear f y Y))
 go_ret
 have f:=(ud a2).alloc (ud a2).size (.cells #[I J m.now,I J (zm m.L),I J (zU (zO (zm m.L) c.qu)),I J ep,I J (ze m.L 1),I J (ze m.L 2),I J (ze m.L 3),I J m.Gl.length] 37)
 have aa:=(ud av).later f
 have e0:(qV ep m.QL k).set i 0=qV ep m.QL k:=VI k i ao
 rw[e0]at aa
 exact⟨rfl,m,yn.same m ns,⟨_,k,rfl,aa,hk,ud HO,aA,aB⟩,(ud a1).trans (Bel.of f (K x (ud a1).size))⟩
theorem zdY{w:N}{B p:Nat}{c:Cf}{ep:Int}{m:MS}{ns:List Nm}{j k:Nat}(hs:Yh w B p c ep m ns j k)(hc:c.ok)(hf:c.fits)(ay:xg ep)(kd a b v:Int)(i:Nat)(d:i<k)(r:Int)(aO:(k:Int)-1-r=i)(r0:0<=r/\r<k)(PK:∀W:N,Calls prog 31 #[I J a,I J k] W fun e w'=>e=.returned (I J r)/\w'=W)(hj:j<=4398046511104)(aj:¬kd=5)(ah:zY m.QL ⟨ep,(i:Int)+1⟩=Q):
  Calls prog 41 #[.pointer (E ⟨p,0,Q⟩),.agg #[I J kd,I J a,I J b,I i32 v]] w fun e w'=>e=.returned (.bool true)/\jJ w w' B p c ep m ns j:=by
 have x:=hs.size
 obtain⟨⟨sp,si,sd,aS,aU,aT,aV⟩,rfl,h,hk,ho,aA,aB⟩:=hs
 dsimp only at*
 obtain⟨r0,r1⟩:=r0
 have aP:B<=sp:=h.lo
 have an:=ho.ok.seg.u0 hc
 have aG:=ho.ok.seg.len400 hc
 have P:Below w.1.size w (w.alloc (.cells #[I J kd,I J a,I J b,I i32 v] 33)):=(O _ _).alloc (S _) _
 have q0:=zk w (.cells #[I J kd,I J a,I J b,I i32 v] 33)
 have o:=h.later P
 obtain⟨g,gc,U,az,R,T⟩:=qK o.krow (j:=i) (by rw[zF];exact d)
 obtain⟨l,ax,t,ai,a0,aC⟩:=jn o.urow (j:=i) (by rw[zV];exact d)
 rw[zF]at U
 rw[zV]at t
 dsimp only at U t
 subst U
 subst t
 have s:(vW ep k)[i]'(by rw[zF];exact d)=⟨ep,(i:Int)+1⟩:=(List.getElem?_eq_some_iff.1 (ko ep k i d)).2
 have ae:(qV ep m.QL k)[i]'(by rw[zV];exact d)=vu m.QL ⟨ep,(i:Int)+1⟩:=(List.getElem?_eq_some_iff.1 (kM ep m.QL k i d)).2
 rw[s]at R T
 rw[ae]at a0
 dsimp only at R T
 have u:=(o.setUnt (g:=l) (cap:=ax) (by rw[zV]) i 0).later (O _ _).drew
 obtain⟨x0,-,-,-,-,-,-,-,ap,aq⟩:=o.cells
 dsimp only at x0 ap aq
 have xl:=o.lt
 dsimp only at xl
 obtain⟨o0,o1,-⟩:=zc q0
 have ol:=za q0
 have ak:¬l=sp:=zu o.head o.urow (by decide) l rfl
 have aH:¬sp=l:=fun e=>ak e.symm
 have al:¬l=g:=fun e=>xo o.urow o.krow (by decide) l rfl (by simp[Value.ownBlock,e])
 have aI:¬g=l:=fun e=>al e.symm
 have aN:w.1.size<(w.alloc (.cells #[I J kd,I J a,I J b,I i32 v] 33)).1.size:=ol
 have am:¬l=w.1.size:=fun e=>by have:=h.foot_lt l (.inr (.inr (.inr (.inr rfl))));omega
 have M:¬w.1.size=l:=fun e=>am e.symm
 have e1:IntKind.i64.wrap ((k:Int)-1)=(k:Int)-1:=by rw[IntKind.wrap_i64];omega
 have e2:IntKind.i64.wrap ((k:Int)-1-r)=i:=by rw[IntKind.wrap_i64];omega
 have aF:(i:Int)<k:=by omega
 have aK:((k:Int)==0)=false:=by simp;omega
 have H:=zd (xI u.mill hc ⟨an.1,by omega⟩ (by omega))
 have G:=zd u
 have Q0:=zd q0
 have ag:Bel B w (w.alloc (.cells #[I J kd,I J a,I J b,I i32 v] 33)):=Bel.of P x
 have ar:=zd ag
 have HX:=zd o
 have au:=fun W=>zd (PK W)
 have HO:=zd ho
 have aD:B<=l:=(o.urow.lt l rfl).1
 clear h o P q0 u s ae ag ho PK
 have aL:(kd==5)=false:=by simp[aj]
 have ao:vu m.QL ⟨ep,(i:Int)+1⟩=0:=MOk.unt_none ah
 rw[ao]at a0
 clear aj
 go_enter func41,ntmps41
 go_wp2_with fail
 generalize(w.alloc (.cells #[I J kd,I J a,I J b,I i32 v] 33))=X at*
 refine wp_region_still_lit (by kernel_rfl) (by kernel_rfl) ?_
 repeat still_step
 still_call (ud (au _))
 repeat still_step
 refine wpStill_nil ?_
 go_wp2_with fail
 refine(ud H).mono ?_
 rintro e C ⟨rfl,F⟩
 have A:=zd F
 have aR:w.1.size<C.1.size:=Nat.lt_of_lt_of_le ol (K (Nat.le_of_eq (Z4 X l i (I J 0)).symm) F.size)
 have p0:=(F.cell (p:=⟨w.1.size,0,Q⟩) (by rw[Z4];exact ol)).trans ((Xu (i:=i) (v:=I J 0) M).trans o0)
 clear F H
 go_wp2_with fail
 have n:=((ud G).later (ud A)).later ((O C.1.size C).alloc (S _) (.cells #[I J m.now,I J (zm m.L),I J (zU (zO (zm m.L) c.qu)),I J ep,I J (ze m.L 1),I J (ze m.L 2),I J (ze m.L 3),I J m.Gl.length] 37))
 have ab:Bel B w (C.alloc (.cells #[I J m.now,I J (zm m.L),I J (zU (zO (zm m.L) c.qu)),I J ep,I J (ze m.L 1),I J (ze m.L 2),I J (ze m.L 3),I J m.Gl.length] 37)):=by
  have k1:=(Bel.unt (i:=i) (ud HX).urow (I J 0)).drew
  have k2:=(ud ar).trans k1
  have k3:=k2.trans (Bel.of (ud A) (K x k2.size))
  exact k3.alloc (K x k3.size) _
 have ad:=zk C (.cells #[I J m.now,I J (zm m.L),I J (zU (zO (zm m.L) c.qu)),I J ep,I J (ze m.L 1),I J (ze m.L 2),I J (ze m.L 3),I J m.Gl.length] 37)
 have D:C.1[w.1.size]?=E (.cells #[I J kd,I J a,I J b,I i32 v] 33 (0,0)):=((ud A).block _ (by rw[Z4];exact ol)).trans ((ZG M).trans (ud Q0))
 have ac:=(Below.heap_alloc _ (.cells #[I J m.now,I J (zm m.L),I J (zU (zO (zm m.L) c.qu)),I J ep,I J (ze m.L 1),I J (ze m.L 2),I J (ze m.L 3),I J m.Gl.length] 37) _ (za D)).trans D
 have aM:¬w.1.size=C.1.size:=by have:=za D;omega
 clear o0 o1 p0 x0 ap aq R T a0 aC az ai xl D A G
 generalize(C.alloc (.cells #[I J m.now,I J (zm m.L),I J (zU (zO (zm m.L) c.qu)),I J ep,I J (ze m.L 1),I J (ze m.L 2),I J (ze m.L 3),I J m.Gl.length] 37))=Z at*
 generalize aQ:C.1.size=wb at*
 obtain⟨z0,-,-,-,-,-,-,-,z11,-⟩:=n.cells
 dsimp only at z0 z11
 obtain⟨gz,aJ,V,aE,t0,t1⟩:=qK n.krow (j:=i) (by rw[zF];exact d)
 rw[zF]at V
 dsimp only at V
 cases V
 have s:(vW ep k)[i]'(by rw[zF];exact d)=⟨ep,(i:Int)+1⟩:=(List.getElem?_eq_some_iff.1 (ko ep k i d)).2
 rw[s]at t0 t1
 dsimp only at t0 t1
 have zl:=n.lt
 dsimp only at zl
 have aw:=zd n
 have a6:=zd ab
 have a8:=zd ad
 have a7:=zd ac
 have a9:=(n.later (O _ _).drew).mill
 have HC:=zd (Ku a9 ⟨ep,(i:Int)+1⟩ ⟨ay,by unfold xg;dsimp only;omega⟩ ah)
 clear a9 n ab ad ac s
 refine xh 11 (by kernel_rfl) (by kernel_rfl) ?_
 simp only[List.take_succ_cons,List.take_zero,List.drop_succ_cons,List.drop_zero]
 repeat still_step
 refine wpStill_nil ?_
 go_wp2_with(first
  |(go_at_call 20;refine(ud HC).mono ?_;rintro e V2 ⟨rfl,af⟩;have z:Below Z.1.size Z V2:=ZS af;have q:=(ud aw).later z;have s0:=(q.cells).1;dsimp only at s0;have sl:=q.lt;dsimp only at sl;have a5:=zd ((z.block _ (za (ud a8))).trans (ud a8));have a3:=zd ((z.block _ (za (ud a7))).trans (ud a7));have a4:=zd (xI q.mill hc ⟨an.1,by omega⟩ (by omega));have av:=zd q;have a1:=zd ((ud a6).trans (Bel.of z (K x (ud a6).size)));clear af z q)
  |(go_at_call 15;refine(ud a4).mono ?_;rintro e V3 ⟨rfl,f⟩;have y:=(f.block _ (za (ud a5))).trans (ud a5);have Y:=(f.block _ (za (ud a3))).trans (ud a3);obtain⟨w0,w1,-⟩:=zc y;have w2:V3.cell? ⟨wb,2,Q⟩=E (I J (zU (zO (zm m.L) c.qu))):=(by rw[xD y];rfl);obtain⟨-,-,-,w3,w4,w5,w6,w7,-⟩:=zc y;have wl:=za y;obtain⟨p0,-⟩:=zc Y;have pl:=za Y;have a2:=zd f;clear f y Y))
 go_ret
 have f:=(ud a2).alloc (ud a2).size (.cells #[I J m.now,I J (zm m.L),I J (zU (zO (zm m.L) c.qu)),I J ep,I J (ze m.L 1),I J (ze m.L 2),I J (ze m.L 3),I J m.Gl.length] 37)
 have aa:=(ud av).later f
 have e0:(qV ep m.QL k).set i 0=qV ep m.QL k:=VI k i ao
 rw[e0]at aa
 exact⟨rfl,m,yn.same m ns,⟨_,k,rfl,aa,hk,ud HO,aA,aB⟩,(ud a1).trans (Bel.of f (K x (ud a1).size))⟩
end Go.Proofs.YtndhpgciopcncaaGreatDoor
