import Derived.Test.YtndhpgciopcncaaGreatDoorPStp3
import Derived.StillTactics
import Derived.Test.YtndhpgciopcncaaGreatDoorPRdr5
open Nat renaming le_trans → J
open Go.RowKit.Below renaming refl → K
open Option renaming some → E
open Go.Value (int)
open Go.IntKind (i32)
set_option linter.unusedVariables false
set_option maxRecDepth 20000
set_option maxHeartbeats 8000000
open Go.Proofs.Tryz
namespace Go.Proofs.YtndhpgciopcncaaGreatDoor
open Go.RowKit Go.Maps Go.Shelf
theorem zou{w:World}{B p:Nat}{c:Cf}{ep:Int}{m:MS}{ns:List Nm}{j:Nat}(hs:ZJ w B p c ep m ns j)(P:c.ok)(hf:c.fits)(n:Int)(hn:1<=n/\n<=1000)(hl:m.now+n<=100000)(hj:j<=4398046511104):
  Calls prog 17 #[(O p),I n] w fun e w'=>e=.returned (.bool true)/\∃m',yL c ep m ns m' ns/\ZJ w' B p c ep m' ns j/\Bel B w w'/\jy c ep (zbO n) m m':=by
 have al:=hs.size
 obtain⟨⟨N,si,sd,a4,a6,a5,aA⟩,k,rfl,h,hk,f,ag,ai⟩:=hs
 dsimp only at*
 obtain⟨c0,_,_,_,_,_,c9,_,_,X⟩:=h.cells
 have a1:=h.lt
 have v:=f.ok.now
 obtain⟨ua,uc,M⟩:=zS h.urow
 rw[xd]at M
 dsimp only at M c0 c9 X a1
 subst M
 have HT:=ze (Qv h.mill P n hn ⟨v.1,hl⟩ (f.ok.binv P) f.ok.seg.inr (by have:=f.ok.seg.len400 P;omega) (fun T Q R=>by
  have Y:=(Jd (ep:=ep) (c:=c) (L:=m.L) (num:=m.num) (show m.now<=m.now+n by omega) f.ok.td f.ok.nt f.ok.leas f.ok.nq f.ok.jobs R)
  have h8:=jE (zj T) (zj m.TL) Y.2.1 (fun x hx=>(Y.2.2.2.2.2.2.2 x).1 hx)
  have h7:=f.ok.t800 P
  simp[zj]at h8
  omega))
 have hd:decide (100000<m.now+n)=false:=by simp;omega
 have az:IntKind.i64.wrap (m.now+n)=m.now+n:=by rw[IntKind.wrap_i64];omega
 have H:=ze h
 have HO:=ze f
 obtain⟨G,ah⟩:=hn
 obtain⟨ax,ay⟩:=v
 clear h f X
 go_enter func17,ntmps17
 go_wp2_with(first|(go_at_call 26;refine(ud HT).mono ?_;rintro e w1 ⟨rfl,ac,r,C,hM,hK,R,hq,hp⟩;have a:=(ud H).putMill hM hK;have Z:=a.setNow (m.now+n);have d9:=(a.cells).2.2.2.2.2.2.1;dsimp only at d9;have df:=fun j=>zv a.head j;have z:=a.lt;dsimp only at z df;have V:=ze Z;have a9:=ze (zgT (c:=c) (ep:=ep) (m:=m) ⟨G,ah⟩ hl R hq hp);have HA:=ze (yL.ticked (c:=c) (ep:=ep) m ns n ac C r G hl R hq hp);have HU:=ze (((ud HO).tick P hf G hl R hq hp).2 k);have HK:=ze (Bel.mill (ud H).mill hK al (ud H).mlo);have aa:=ze a.head;clear hM hK R hq hp a Z))
 have ak:B<=N:=(ud H).lo
 have a2:zV (w1.setCell (U N 9) (I (m.now+n))) B ⟨N,si,sd,a4,a6,a5,.slice ua k uc⟩ c ep {m with now:=m.now+n,TL:=C,QL:=r} (m.now+n) ns (Zn ep k) (J9 (m.now+n) 0 (yK ep m.QL k)):=by rw[zhB];exact ud V
 have hbs:Bel B w (w1.setCell (U N 9) (I (m.now+n))):=(ud HK).trans (Bel.set (ud aa) (by decide) ak _)
 have ab:=ze a2
 have a8:=ze hbs
 have a3:=xd ep m.QL k
 have q:=ze a3
 clear a2 hbs d9 df z c0 c9 a1 V HT a3
 go_loopw [6] (fun y wr=>∃(t:Nat),t<=k/\y=I t/\zV wr B ⟨N,si,sd,a4,a6,a5,.slice ua k uc⟩ c ep {m with now:=m.now+n,TL:=C,QL:=r} (m.now+n) ns (Zn ep k) (J9 (m.now+n) t (yK ep m.QL k))/\Bel B w wr) (fun y _=>k-(intOf y).toNat)
 case atStart=>exact⟨0,Nat.zero_le _,rfl,ud ab,ud a8⟩
 case round=>
  obtain⟨t,aw,rfl,i,hb⟩:=hrel
  obtain⟨-,-,-,-,-,-,e9,-,-,ad⟩:=i.cells
  dsimp only at e9 ad
  have aj:=i.lt
  dsimp only at aj
  have av:(k:Int)<=4398046511104:=by omega
  by_cases d:t<k
  ·have ap:(t:Int)<k:=by omega
   have b:=zdC (m.now+n) t (yK ep m.QL k)
   rw[ud q]at b
   obtain⟨g,gc,F,au,ae,ar⟩:=ZH i.urow (j:=t) (by rw[b];exact d)
   rw[b]at F
   dsimp only at F
   cases F
   have D:(J9 (m.now+n) t (yK ep m.QL k))[t]?=E (jN m.QL ⟨ep,(t:Int)+1⟩):=by rw[znr _ _ _ (by rw[ud q];exact d),vV _ _ _ _ d]
   have hu:(J9 (m.now+n) t (yK ep m.QL k))[t]'(by rw[b];exact d)=jN m.QL ⟨ep,(t:Int)+1⟩:=by have:=List.getElem?_eq_some_iff.1 D;exact this.2
   rw[hu]at ae
   have l:J9 (m.now+n) (t+1) (yK ep m.QL k)=(J9 (m.now+n) t (yK ep m.QL k)).set t (zgy (m.now+n) (jN m.QL ⟨ep,(t:Int)+1⟩)):=by
    rw[zhA _ _ _ (by rw[ud q];exact d)]
    congr 2
    have:=List.getElem?_eq_some_iff.1 (vV ep m.QL k t d)
    exact this.2
   have s:=ze l
   have a7:=ze D
   have o:=ze i
   have A:=i.setUnt (g:=g) (cap:=uc) (by rw[b]) t 0
   have W:=ze A
   have aq:B<=g:=(i.urow.lt g rfl).1
   have S:=ze hb
   have af:¬g=N:=zr i.head i.urow (by decide) g rfl
   have am:¬N=g:=fun e=>af e.symm
   clear i b l D A hu hb
   generalize jN m.QL ⟨ep,(t:Int)+1⟩=u at*
   by_cases a0:u<=m.now+n
   ·go_wp2_with fail
    go_still (by kernel_rfl)
    go_wp2_with fail
    go_roundw
    case rel=>
     refine⟨t+1,by omega,by go_num,?_,((ud S).trans (Bel.unt (ud o).urow _)).drew⟩
     rw[ud s,zkA a0]
     exact(ud W).later (K _ _).drew
    case measure=>simp[intOf];omega
   ·have an:decide (u<=m.now+n)=false:=by simpa using a0
    go_wp2_with fail
    go_still (by kernel_rfl)
    go_wp2_with fail
    go_roundw
    case rel=>
     refine⟨t+1,by omega,by go_num,?_,(ud S).drew⟩
     rw[ud s,zhC (by omega),zlP (ud a7)]
     exact(ud o).later (K _ _).drew
    case measure=>simp[intOf];omega
  ·have ao:decide ((t:Int)<k)=false:=by simp;omega
   have o:=ze i
   clear i
   go_wp2_with fail
   go_ret
   have ht:t=k:=by omega
   subst ht
   have Y:=ud o
   have h8:J9 (m.now+n) t (yK ep m.QL t)=yK ep r t:=by
    have e1:=zkz (m.now+n) (yK ep m.QL t)
    rw[ud q]at e1
    rw[e1,ud HU]
   rw[h8]at Y
   exact⟨rfl,_,ud HA,⟨_,t,rfl,Y,hk,(ud HA).ok P hf (ud HO),ag,ai⟩,hb,ud a9⟩
def zoT(w w':World)(B p:Nat)(c:Cf)(ep:Int)(m:MS)(ns:List Nm)(j:Nat)(a b v:Int):Prop:=∃m' d,yL c ep m ns m' d/\ZJ w' B p c ep m' d (j+1)/\Bel B w w'/\((m'=m/\d=ns/\c.qu<zJ m.L+1+2*c.n)\/∃x,d=ns++[x]/\zJ m.L<zJ m'.L/\zJ m'.L<=zJ m.L+1+2*c.n)/\jy c ep (zhS c a b v) m m'
theorem zpC{w:World}{B p:Nat}{c:Cf}{ep:Int}{m:MS}{ns:List Nm}{j:Nat}(hs:ZJ w B p c ep m ns j)(M:c.ok)(hf:c.fits)(kd a b v:Int)(ha: -9223372036854775808<=a/\a<=9223372036854775807)(hbb: -9223372036854775808<=b/\b<=9223372036854775807)(hv: -2147483648<=v/\v<=2147483647)(hj:j<4398046511104):
  Calls prog 39 #[(O p),.agg (kZz kd a b v)] w fun e w'=>e=.returned (.bool true)/\zoT w w' B p c ep m ns j a b v:=by
 have H:=hs.size
 obtain⟨⟨sp,si,sd,aP,aR,aQ,aS⟩,k,rfl,h,hk,G,au,ay⟩:=hs
 dsimp only at*
 obtain⟨na,nc,aw⟩:=zS h.nrow
 dsimp only at aw
 subst aw
 have aB:B<=sp:=h.lo
 have aH:=M.la
 have aO:=M.qu
 have aJ:=M.n4
 have a7:=G.ok.now
 obtain⟨a1,b1,P1⟩:=kr a 4 ha (by omega)
 generalize az:pkV a 4=f at a1 b1 P1
 obtain⟨a2,b2,P2⟩:=kr b (c.la+1) hbb (by omega)
 generalize aA:pkV b (c.la+1)=r at a2 b2 P2
 have F:=ze az
 have ae:=ze aA
 clear az aA
 have ao:=fun W=>ze (P1 W)
 have ap:=fun W=>ze (P2 W)
 have ak:Below w.1.size w (w.alloc (.cells (kZz kd a b v) 33)):=(K _ _).alloc (Nat.le_refl _) _
 have q0:=zp w (.cells (kZz kd a b v) 33)
 have hX:=h.later ak
 obtain⟨-,-,-,c4,-,-,c9,-,-,-⟩:=hX.cells
 dsimp only at c4 c9
 obtain⟨-,o1,o2,o3,-⟩:=zc q0
 have ol:=zd q0
 have pl:=hX.lt
 dsimp only at pl
 have e1:IntKind.i64.wrap (c.la+1)=c.la+1:=by rw[IntKind.wrap_i64];omega
 have e2:IntKind.i64.wrap (m.now-r)=m.now-r:=by rw[IntKind.wrap_i64];omega
 have HX:=ze hX
 have ai:=ze (Bel.of ak H)
 clear h hX ak q0 P1 P2
 go_enter func39,ntmps39
 go_wp2_with fail
 generalize(w.alloc (.cells (kZz kd a b v) 33))=X at*
 rename_i K1 hK1
 refine(fun aq:K1 ?aa ?ww=>?main) ?M
 case main=>
  go_region_held3 (fun w'=>w'.cell? (U w.1.size 1)=E (I a)/\w'.cell? (U w.1.size 2)=E (I b)/\w'.cell? (U w.1.size 3)=E (int i32 v)/\w'.cell? (U sp 9)=E (I m.now)/\w'.cell? (U sp 4)=E (I c.la)) (go_keep) (first
   |(go_at_call 31;(first|(with_reducible refine(ud (ao _)).mono ?_)|(with_reducible refine(ud (ap _)).mono ?_));rintro e W ⟨rfl,hw⟩;subst hw))
  all_goals exact aq
 case M=>
  refine hK1 _ _ ?_
  clear hK1 ao ap o1 o2 o3 c4 c9
  have nx:=zp X (.cells #[I f,I (m.now-r),int i32 v] 87)
  have ag:Below X.1.size X (X.alloc (.cells #[I f,I (m.now-r),int i32 v] 87)).drew:=((K _ _).alloc (Nat.le_refl _) _).drew
  have T:(X.alloc (.cells #[I f,I (m.now-r),int i32 v] 87)).drew.1[X.1.size]?=E (.cells #[I f,I (m.now-r),int i32 v] 87 (0,0)):=nx
  have ab:=(ud HX).later ag
  have af:=(ud ai).trans (Bel.of ag (J H (ud ai).size))
  have aN:¬X.1.size=sp:=by omega
  have aG:¬sp=X.1.size:=by omega
  obtain⟨-,aI,-⟩:=zc T
  have aL:=fun j=>zv T j
  have aM:=zd T
  generalize(X.alloc (.cells #[I f,I (m.now-r),int i32 v] 87)).drew=Z at*
  generalize aK:X.1.size=nb at*
  by_cases ax:m.now-r<0
  ·have ar:=Qp Z nb 1 (I 0)
   have P:Hid ((Z.setCell (U nb 1) (I 0)).1[nb]?=E (.cells #[I f,I 0,int i32 v] 87 (0,0))):=xy (i:=1) T (I 0)
   have g:=ze (ab.kept ar (fun q hq e=>by have:=(ud HX).foot_lt q hq;omega) (fun q hq e=>ab.mill.tag T (by decide) (e▸hq)) (fun e=>by have h9:=(ud HX).mill.tab.lt;have e9:Y4=nb:=e;omega))
   have N:=ze (af.trans (Bel.set (i:=1) T (by decide) (by have:=(ud ai).size;omega) (I 0)))
   clear nx ag T ab af ar
   go_wp2_with fail
   generalize(Z.setCell (U nb 1) (I 0))=Y at*
   have y:0<=f/\f<4:=⟨a1,b1⟩
   have z:(0:Int)<=0/\0<=m.now:=by omega
   have o:m.now-c.la<=0:=by omega
   obtain⟨y0,-,-,-,-,-,-,am,-,-⟩:=(ud g).cells
   dsimp only at y0 am
   obtain⟨n0,n1,n2,-⟩:=zc (ud P)
   have nl:=zd (ud P)
   have yl:=(ud g).lt
   dsimp only at yl
   have S:∀q:Nat,q<c.n->zD m.Gl (qm c f (0) q)=none:=fun q hq=>G.ok.not_gone M (x:=⟨f,0,v⟩) o (t:=(q:Int)) (by omega) (by omega)
   have ad:=G.ok.seg.u0 M
   have aD:=yD c m.L ⟨f,0,v⟩ c.n
   by_cases l:zJ m.L+(1+2*qO c m.L ⟨f,0,v⟩ c.n)<=c.qu
   ·have a4:=ze (Jy (((ud g).later (K _ _).drew).mill) M f (0) v y z o a7.2 hv ⟨ad.1,by omega⟩ G.ok.seg.st S l (by have:=G.ok.seg.len400 M;omega) (G.ok.small M))
    have HO:=ze G
    clear S G
    refine xK 10 (by kernel_rfl) (by kernel_rfl) ?_
    simp only[List.take_succ_cons,List.take_zero,List.drop_succ_cons,List.drop_zero]
    repeat still_step
    refine wpStill_nil ?_
    go_wp2_with(first|(go_at_call 27;refine(ud a4).mono ?_;rintro e V ⟨rfl,hM,hK⟩;have R:Kx si Y V:=((ud g).mill.below (K _ _).drew).trans hK;have d:=(ud g).putMill hM R;have an:=(d.cells).2.2.2.2.2.2.2.1;dsimp only at an;have D:=R.kept.heap (ud P) ((ud g).mill.tag (ud P) (by decide));obtain⟨m0,m1,m2,-⟩:=zc D;have aF:=zd D;have vl:=d.lt;dsimp only at vl;have vf:=fun j=>zv d.head j;dsimp only at vf;have Q:=ze d;have A:=ze ((ud N).trans (Bel.mill (ud g).mill R (J H (ud N).size) (ud g).mlo));clear hM hK R d D))
    have a3:=ze ((ud Q).nrow)
    go_region_law (refine vs rfl (.tmp 48) (.tmp 50) 40 87 3 24 rfl underlying40 zaT rfl (by decide) B (.slice na ns.length nc) ns.length (ns.flatMap nmV) (by simp[Act.eval]) (jq ((ud a3).alloc _)) V.1.size [I f,I (0),int i32 v] 87 (0,0) (by simp[Act.eval]) (jp V _) rfl (by simp[Value.oneCell']) ?h63 ?hby ?hbs ?_;(case h63=>(simp only[maxLen];omega));(case hby=>omega);(case hbs=>exact J (J H (ud A).size) (vD _ _));intro g3 a9 w5 u s ac av;have a6:zh (fun k'=>(Value.slice na ns.length nc).ownBlock=E k') V w5:=zh.grown ((zh.refl _ _).alloc _) (vo s) (fun k hk _=>hk);have a0:=a6.heap ((ud Q).head) (fun e=>zr (ud Q).head (ud a3) (by decide) _ e rfl);obtain⟨-,-,-,-,-,-,-,-,-,-,aC,-⟩:=zc a0;have df:=fun j=>zv a0 j;have dl:=zd a0;dsimp only at df dl;have a8:=ze u;have a5:=ze a6;have ah:=ze ac;clear u a6 a0 s ac)
    all_goals
     go_wp2_with fail
     go_ret
     have d:=ud Q
     have u:w5.ownsRow B 87 3 (.slice (E (U g3 0)) (ns.length+1) a9) (ns++[(⟨f,0,v⟩:Nm)]).length ((ns++[(⟨f,0,v⟩:Nm)]).flatMap nmV):=by
      rw[List.length_append,List.flatMap_append]
      exact ud a8
     have aj:=d.setNums (ud a5) u (fun q hq=>by
      have e:g3=q:=by simpa[Value.ownBlock]using hq
      subst e
      rcases ud ah with h|h
      ·exact .inl h
      ·right;rw[h];exact vD _ _)
     have al:Bel B w w5:=(ud A).trans (Bel.row d.nrow (by decide) (ud a5) (J H (ud A).size))
     have hA:yL c ep m ns {m with L:=yu c m.L ⟨f,0,v⟩} (ns++[⟨f,0,v⟩]):=yL.added m ns ⟨f,0,v⟩ y z o hv l
     have hU:=((ud HO).ingest M hf (x:=⟨f,0,v⟩) y z o hv l).2
     have hD:jy c ep (zhS c a b v) m {m with L:=yu c m.L ⟨f,0,v⟩}:=by have h9:=zgP (c:=c) (ep:=ep) (m:=m) (a:=a) (b:=b) (v:=v) (tm:=0) (by unfold znE;rw[ud ae];exact if_pos (by omega)) (by rw[ud F];exact y) z o hv (by rw[ud F];exact l);rw[ud F]at h9;exact h9
     refine⟨rfl,_,_,hA,⟨_,k,rfl,aj,hk,hA.ok M hf (ud HO),by omega,by simp;omega⟩,al.trans (Bel.set ((ud a5).heap d.head (fun e=>zr d.head d.nrow (by decide) _ e rfl)) (by decide) aB _),.inr ⟨⟨f,0,v⟩,rfl,?_,?_⟩,hD⟩
     ·show _<zJ (yu c m.L ⟨f,0,v⟩);omega
     ·show zJ (yu c m.L ⟨f,0,v⟩)<=_;omega
   ·have a4:=ze (Kd (((ud g).later (K _ _).drew).mill) M f (0) v y z o a7.2 hv ⟨ad.1,by omega⟩ G.ok.seg.st S (by omega))
    have HO:=ze G
    clear S G
    refine xK 10 (by kernel_rfl) (by kernel_rfl) ?_
    simp only[List.take_succ_cons,List.take_zero,List.drop_succ_cons,List.drop_zero]
    repeat still_step
    refine wpStill_nil ?_
    go_wp2_with(first|(go_at_call 27;refine(ud a4).mono ?_;rintro e V ⟨rfl,C⟩;have A:=ze C;clear C))
    go_ret
    have C:Below Y.1.size Y V:=Vm (ud A)
    have hD:jy c ep (zhS c a b v) m m:=zan (c:=c) (ep:=ep) (m:=m) (a:=a) (b:=b) (v:=v) (tm:=0) (by unfold znE;rw[ud ae];exact if_pos (by omega)) (by rw[ud F];exact y) z o hv (by rw[ud F];omega)
    exact⟨rfl,m,ns,yL.same m ns,ZJ.mono ⟨_,k,rfl,(ud g).later C,hk,ud HO,au,ay⟩ (Nat.le_succ j),(ud N).trans (Bel.of C (J H (ud N).size)),.inl ⟨rfl,rfl,by omega⟩,hD⟩
  ·have aE:decide (m.now-r<0)=false:=by simpa using ax
   have P:=ze T
   have g:=ze ab
   have N:=ze af
   clear nx ag T ab af
   go_wp2_with fail
   generalize Z=Y at*
   have y:0<=f/\f<4:=⟨a1,b1⟩
   have z:(0:Int)<=(m.now-r)/\(m.now-r)<=m.now:=by omega
   have o:m.now-c.la<=(m.now-r):=by omega
   obtain⟨y0,-,-,-,-,-,-,am,-,-⟩:=(ud g).cells
   dsimp only at y0 am
   obtain⟨n0,n1,n2,-⟩:=zc (ud P)
   have nl:=zd (ud P)
   have yl:=(ud g).lt
   dsimp only at yl
   have S:∀q:Nat,q<c.n->zD m.Gl (qm c f ((m.now-r)) q)=none:=fun q hq=>G.ok.not_gone M (x:=⟨f,(m.now-r),v⟩) o (t:=(q:Int)) (by omega) (by omega)
   have ad:=G.ok.seg.u0 M
   have aD:=yD c m.L ⟨f,(m.now-r),v⟩ c.n
   by_cases l:zJ m.L+(1+2*qO c m.L ⟨f,(m.now-r),v⟩ c.n)<=c.qu
   ·have a4:=ze (Jy (((ud g).later (K _ _).drew).mill) M f ((m.now-r)) v y z o a7.2 hv ⟨ad.1,by omega⟩ G.ok.seg.st S l (by have:=G.ok.seg.len400 M;omega) (G.ok.small M))
    have HO:=ze G
    clear S G
    refine xK 10 (by kernel_rfl) (by kernel_rfl) ?_
    simp only[List.take_succ_cons,List.take_zero,List.drop_succ_cons,List.drop_zero]
    repeat still_step
    refine wpStill_nil ?_
    go_wp2_with(first|(go_at_call 27;refine(ud a4).mono ?_;rintro e V ⟨rfl,hM,hK⟩;have R:Kx si Y V:=((ud g).mill.below (K _ _).drew).trans hK;have d:=(ud g).putMill hM R;have an:=(d.cells).2.2.2.2.2.2.2.1;dsimp only at an;have D:=R.kept.heap (ud P) ((ud g).mill.tag (ud P) (by decide));obtain⟨m0,m1,m2,-⟩:=zc D;have aF:=zd D;have vl:=d.lt;dsimp only at vl;have vf:=fun j=>zv d.head j;dsimp only at vf;have Q:=ze d;have A:=ze ((ud N).trans (Bel.mill (ud g).mill R (J H (ud N).size) (ud g).mlo));clear hM hK R d D))
    have a3:=ze ((ud Q).nrow)
    go_region_law (refine vs rfl (.tmp 48) (.tmp 50) 40 87 3 24 rfl underlying40 zaT rfl (by decide) B (.slice na ns.length nc) ns.length (ns.flatMap nmV) (by simp[Act.eval]) (jq ((ud a3).alloc _)) V.1.size [I f,I ((m.now-r)),int i32 v] 87 (0,0) (by simp[Act.eval]) (jp V _) rfl (by simp[Value.oneCell']) ?h63 ?hby ?hbs ?_;(case h63=>(simp only[maxLen];omega));(case hby=>omega);(case hbs=>exact J (J H (ud A).size) (vD _ _));intro g3 a9 w5 u s ac av;have a6:zh (fun k'=>(Value.slice na ns.length nc).ownBlock=E k') V w5:=zh.grown ((zh.refl _ _).alloc _) (vo s) (fun k hk _=>hk);have a0:=a6.heap ((ud Q).head) (fun e=>zr (ud Q).head (ud a3) (by decide) _ e rfl);obtain⟨-,-,-,-,-,-,-,-,-,-,aC,-⟩:=zc a0;have df:=fun j=>zv a0 j;have dl:=zd a0;dsimp only at df dl;have a8:=ze u;have a5:=ze a6;have ah:=ze ac;clear u a6 a0 s ac)
    all_goals
     go_wp2_with fail
     go_ret
     have d:=ud Q
     have u:w5.ownsRow B 87 3 (.slice (E (U g3 0)) (ns.length+1) a9) (ns++[(⟨f,(m.now-r),v⟩:Nm)]).length ((ns++[(⟨f,(m.now-r),v⟩:Nm)]).flatMap nmV):=by
      rw[List.length_append,List.flatMap_append]
      exact ud a8
     have aj:=d.setNums (ud a5) u (fun q hq=>by
      have e:g3=q:=by simpa[Value.ownBlock]using hq
      subst e
      rcases ud ah with h|h
      ·exact .inl h
      ·right;rw[h];exact vD _ _)
     have al:Bel B w w5:=(ud A).trans (Bel.row d.nrow (by decide) (ud a5) (J H (ud A).size))
     have hA:yL c ep m ns {m with L:=yu c m.L ⟨f,(m.now-r),v⟩} (ns++[⟨f,(m.now-r),v⟩]):=yL.added m ns ⟨f,(m.now-r),v⟩ y z o hv l
     have hU:=((ud HO).ingest M hf (x:=⟨f,(m.now-r),v⟩) y z o hv l).2
     have hD:jy c ep (zhS c a b v) m {m with L:=yu c m.L ⟨f,(m.now-r),v⟩}:=by have h9:=zgP (c:=c) (ep:=ep) (m:=m) (a:=a) (b:=b) (v:=v) (tm:=(m.now-r)) (by unfold znE;rw[ud ae];exact if_neg (by omega)) (by rw[ud F];exact y) z o hv (by rw[ud F];exact l);rw[ud F]at h9;exact h9
     refine⟨rfl,_,_,hA,⟨_,k,rfl,aj,hk,hA.ok M hf (ud HO),by omega,by simp;omega⟩,al.trans (Bel.set ((ud a5).heap d.head (fun e=>zr d.head d.nrow (by decide) _ e rfl)) (by decide) aB _),.inr ⟨⟨f,(m.now-r),v⟩,rfl,?_,?_⟩,hD⟩
     ·show _<zJ (yu c m.L ⟨f,(m.now-r),v⟩);omega
     ·show zJ (yu c m.L ⟨f,(m.now-r),v⟩)<=_;omega
   ·have a4:=ze (Kd (((ud g).later (K _ _).drew).mill) M f ((m.now-r)) v y z o a7.2 hv ⟨ad.1,by omega⟩ G.ok.seg.st S (by omega))
    have HO:=ze G
    clear S G
    refine xK 10 (by kernel_rfl) (by kernel_rfl) ?_
    simp only[List.take_succ_cons,List.take_zero,List.drop_succ_cons,List.drop_zero]
    repeat still_step
    refine wpStill_nil ?_
    go_wp2_with(first|(go_at_call 27;refine(ud a4).mono ?_;rintro e V ⟨rfl,C⟩;have A:=ze C;clear C))
    go_ret
    have C:Below Y.1.size Y V:=Vm (ud A)
    have hD:jy c ep (zhS c a b v) m m:=zan (c:=c) (ep:=ep) (m:=m) (a:=a) (b:=b) (v:=v) (tm:=(m.now-r)) (by unfold znE;rw[ud ae];exact if_neg (by omega)) (by rw[ud F];exact y) z o hv (by rw[ud F];omega)
    exact⟨rfl,m,ns,yL.same m ns,ZJ.mono ⟨_,k,rfl,(ud g).later C,hk,ud HO,au,ay⟩ (Nat.le_succ j),(ud N).trans (Bel.of C (J H (ud N).size)),.inl ⟨rfl,rfl,by omega⟩,hD⟩
def zmT(w w':World)(B p:Nat)(c:Cf)(ep:Int)(m:MS)(ns:List Nm)(j:Nat)(slot:Int):Prop:=∃m',yL c ep m ns m' ns/\ZJ w' B p c ep m' ns (j+1)/\Bel B w w'/\(m'.num=m.num\/m'.num=m.num+1)/\jy c ep (Q8 slot) m m'
theorem zjr{w:World}{B p:Nat}{c:Cf}{ep:Int}{m:MS}{ns:List Nm}{j:Nat}(hs:ZJ w B p c ep m ns j)(hc:c.ok)(hf:c.fits)(aF:xg ep)(slot:Int)(aB:0<=slot/\slot<c.s)(hj:j<4398046511104):
  Calls prog 40 #[(O p),I slot] w fun e w'=>e=.returned (.bool true)/\zmT w w' B p c ep m ns j slot:=by
 have v:=hs.size
 obtain⟨⟨sp,si,sd,al,am,b0,b1⟩,k,rfl,h,hk,ho,av,ax⟩:=hs
 dsimp only at*
 obtain⟨ka,kc,ag⟩:=zS h.krow
 obtain⟨ua,uc,ak⟩:=zS h.urow
 rw[zK]at ag
 rw[xd]at ak
 dsimp only at ag ak
 subst ag
 subst ak
 have aC:B<=sp:=h.lo
 have aG:=hc.le
 have a3:=ho.ok.now
 have hu:=ho.ok.seg.u0 hc
 have L:=ze (zfw h.mill hc slot aB a3 ho.tsk (by have:=ho.ok.q800 hc;omega) ⟨by omega,by omega⟩ aF ho.qn ⟨hu.1,by omega⟩)
 rw[hk]at L
 obtain⟨c0,-,-,-,-,-,-,-,-,-⟩:=h.cells
 dsimp only at c0
 have aA:=h.lt
 dsimp only at aA
 have H:=ze h
 have HO:=ze ho
 have aS:(k:Int)<=4398046511104:=by omega
 obtain⟨ai,aj⟩:=aB
 obtain⟨aW,aX⟩:=a3
 obtain⟨aT,aU⟩:=aG
 clear h ho
 go_enter func40,ntmps40
 go_wp2_with fail
 refine(ud L).mono ?_
 rintro e V (⟨rfl,R,Q⟩|⟨rfl,R,W,S⟩|⟨a,S,ay,aq,a2,rfl,hM,hK⟩)
 ·clear L
  have F:Hid (jy c ep (Q8 slot) m m):=fun r h=>by unfold Q8;rw[h.pick_busy ⟨ai,aj⟩ Q];exact h
  clear Q
  go_wp2_with fail
  go_ret
  have P:=R.alloc R.size zjY
  exact⟨rfl,m,yL.same m ns,ZJ.mono ⟨_,k,rfl,(ud H).later P,hk,ud HO,av,ax⟩ (Nat.le_succ j),Bel.of P v,.inl rfl,ud F⟩
 ·clear L
  have F:Hid (jy c ep (Q8 slot) m m):=fun r h=>by unfold Q8;rw[h.pick_idle ⟨ai,aj⟩ S W];exact h
  clear W S
  go_wp2_with fail
  go_ret
  have P:=R.alloc R.size zjY
  exact⟨rfl,m,yL.same m ns,ZJ.mono ⟨_,k,rfl,(ud H).later P,hk,ud HO,av,ax⟩ (Nat.le_succ j),Bel.of P v,.inl rfl,ud F⟩
 ·clear L
  have F:Hid (jy c ep (Q8 slot) m {m with num:=(k:Int)+1,QL:=xZ m.QL ⟨ep,(k:Int)+1⟩ ⟨a.2.kd,a.2.s,slot,m.now+c.le⟩}):=fun r h=>by
   have h9:=(h.pick ⟨ai,aj⟩ S ay aq a2).2.2
   rw[hk]at h9
   exact h9
  clear S a2
  have ab:zV V B ⟨sp,si,sd,al,am,.slice ka k kc,.slice ua k uc⟩ c ep {m with num:=(k:Int)+1,QL:=xZ m.QL ⟨ep,(k:Int)+1⟩ ⟨a.2.kd,a.2.s,slot,m.now+c.le⟩} m.now ns (Zn ep k) (yK ep m.QL k):=(ud H).putMill hM hK
  have hA:=(K V.1.size V).alloc (Nat.le_refl _) (.cells #[I a.2.kd,I a.2.s.t,I a.2.s.sr,I a.2.s.wn,I a.2.se,I a.2.ti,I a.2.rest,I ep,I ((k:Int)+1),I slot,I (m.now+c.le)] 51)
  have ap:=ab.later hA
  have ad:Bel B w V:=Bel.mill (ud H).mill hK v (ud H).mlo
  have a5:=ze (ad.alloc (J v ad.size) (.cells #[I a.2.kd,I a.2.s.t,I a.2.s.sr,I a.2.s.wn,I a.2.se,I a.2.ti,I a.2.rest,I ep,I ((k:Int)+1),I slot,I (m.now+c.le)] 51))
  have a6:=ze (zp V (.cells #[I a.2.kd,I a.2.s.t,I a.2.s.sr,I a.2.s.wn,I a.2.se,I a.2.ti,I a.2.rest,I ep,I ((k:Int)+1),I slot,I (m.now+c.le)] 51))
  have ao:=ze ap
  have a1:Hid (yL c ep m ns {m with num:=(k:Int)+1,QL:=xZ m.QL ⟨ep,(k:Int)+1⟩ ⟨a.2.kd,a.2.s,slot,m.now+c.le⟩} ns):=by
   have:=yL.taken (c:=c) (ep:=ep) m ns a slot ay aq
   rw[hk]at this
   exact this
  have aN:sp<V.1.size:=ab.lt
  have az:¬V.1.size=sp:=by omega
  have aM:¬sp=V.1.size:=by omega
  clear ab ap hA ad hM hK c0 aA
  go_wp2_with fail
  generalize(V.alloc (.cells #[I a.2.kd,I a.2.s.t,I a.2.s.sr,I a.2.s.wn,I a.2.se,I a.2.ti,I a.2.rest,I ep,I ((k:Int)+1),I slot,I (m.now+c.le)] 51))=Y at*
  generalize aR:V.1.size=jb at*
  go_loopw [7] (fun y wr=>∃(t:Nat),t<=k/\y=I t/\Below Y.1.size Y wr) (fun y _=>k-(intOf y).toNat)
  case atStart=>exact⟨0,Nat.zero_le _,rfl,K _ _⟩
  case round=>
   obtain⟨t,aV,rfl,D⟩:=hrel
   have x:=(ud ao).later D
   have N:=(D.block _ (zd (ud a6))).trans (ud a6)
   have a9:=(ud a5).trans (Bel.of D (J v (ud a5).size))
   obtain⟨-,-,x3,-,-,-,x9,-,aD,X⟩:=x.cells
   dsimp only at x3 x9 aD X
   have xl:=x.lt
   dsimp only at xl
   have xf:=fun j=>zv x.head j
   dsimp only at xf
   obtain⟨-,-,-,-,-,-,-,j7,j8,-⟩:=zc N
   have jl:=zd N
   by_cases ah:t<k
   ·have aK:(t:Int)<k:=by omega
    obtain⟨g,gc,ae,aQ,ar,au⟩:=yt x.krow (j:=t) (by rw[zK];exact ah)
    rw[zK]at ae
    dsimp only at ae
    cases ae
    have z:(Zn ep k)[t]'(by rw[zK];exact ah)=⟨ep,(t:Int)+1⟩:=(List.getElem?_eq_some_iff.1 (vw ep k t ah)).2
    rw[z]at ar au
    dsimp only at ar au
    have aL:((t:Int)+1==(k:Int)+1)=false:=by simp;omega
    have aH:((t:Int)==(k:Int))=false:=by simp;omega
    have C:=ze D
    clear x N a9 D z
    go_wp2_with fail
    go_still (by kernel_rfl)
    go_wp2_with fail
    go_roundw
    case rel=>exact⟨t+1,by omega,by go_num,(ud C).drew⟩
    case measure=>simp[intOf];omega
   ·have aJ:decide ((t:Int)<k)=false:=by simp;omega
    have Z:=ze x
    have a7:=ze N
    have C:=ze a9
    have i:=ze x.krow
    clear x N a9 D ao a6 a5
    go_wp2_with fail
    rename_i K9 hK9
    refine(fun M:∀(g3 l:Nat) (T:World),Hid (zV T B ⟨sp,si,sd,al,am,.slice (E (U g3 0)) (k+1) l,.slice ua k uc⟩ c ep {m with num:=(k:Int)+1,QL:=xZ m.QL ⟨ep,(k:Int)+1⟩ ⟨a.2.kd,a.2.s,slot,m.now+c.le⟩} m.now ns (Zn ep (k+1)) (yK ep m.QL k))->Hid (T.1[jb]?=E (.cells #[I a.2.kd,I a.2.s.t,I a.2.s.sr,I a.2.s.wn,I a.2.se,I a.2.ti,I a.2.rest,I ep,I ((k:Int)+1),I slot,I (m.now+c.le)] 51 (0,0)))->Hid (Bel B w T)->K9 ((?aa:Nat->Nat->Act) g3 l) T=>?main) ?hc
    case main=>
     go_region_law (refine vs rfl (.tmp 48) (.tmp 51) 41 49 2 16 rfl underlying41 zil rfl (by decide) B (.slice ka k kc) k ((Zn ep k).flatMap zgB) (by simp[Act.eval]) (jq ((zmo (ud i)).alloc _)) wr.1.size [I ep,I ((k:Int)+1)] 49 (0,0) (by simp[Act.eval]) (jp wr _) rfl (by simp[Value.oneCell']) ?h63 ?hby ?hbs ?_;(case h63=>(simp only[maxLen];omega));(case hby=>omega);(case hbs=>exact J (J v (ud C).size) (vD _ _));intro g3 l w5 f d z aw;have A:zh (fun k'=>(Value.slice ka k kc).ownBlock=E k') wr w5:=zh.grown ((zh.refl _ _).alloc _) (vo d) (fun k hk _=>hk);have u:=A.heap ((ud Z).head) (fun e=>zr (ud Z).head (ud i) (by decide) _ e rfl);obtain⟨-,-,-,-,-,-,-,-,-,-,-,aO,-⟩:=zc u;have df:=fun j=>zv u j;have dl:=zd u;dsimp only at df dl;have G:=ze f;have o:=ze A;have a4:=ze z;clear f A u d z)
     all_goals
      have b:=ud Z
      have f:w5.ownsRow B 49 2 (.slice (E (U g3 0)) (k+1) l) (Zn ep k++[(⟨ep,(k:Int)+1⟩:Tok)]).length ((Zn ep k++[(⟨ep,(k:Int)+1⟩:Tok)]).flatMap zgB):=by
       rw[List.length_append,zK,List.flatMap_append]
       exact ud G
      have a0:=b.setToks (ud o) f (fun q hq=>by
       have e:g3=q:=by simpa[Value.ownBlock]using hq
       subst e
       rcases ud a4 with h|h
       ·exact .inl h
       ·right;rw[h];exact vD _ _)
      rw[<-zjL]at a0
      have ac:Bel B w w5:=(ud C).trans (Bel.row b.krow (by decide) (ud o) (J v (ud C).size))
      have af:=(ud o).heap (ud a7) (fun e=>zr (ud a7) b.krow (by decide) _ e rfl)
      exact M g3 l _ (ze a0) (ze ((Qp w5 sp 11 _).heap af az)) (ze (ac.trans (Bel.set ((ud o).heap b.head (fun e=>zr b.head b.krow (by decide) _ e rfl)) (by decide) aC _)))
    case hc=>
     intro g3 l T HS HJ HB
     refine hK9 _ _ ?_
     try dsimp only
     clear hK9 Z a7 C i x3 x9 aD X xl xf j7 j8 jl
     obtain⟨-,-,x3,-,-,-,x9,-,-,X⟩:=(ud HS).cells
     dsimp only at x3 x9 X
     have xl:=(ud HS).lt
     dsimp only at xl
     have xf:=fun j=>zv (ud HS).head j
     dsimp only at xf
     have i:=ze (ud HS).urow
     have aY:IntKind.i64.wrap (m.now+c.le)=m.now+c.le:=by rw[IntKind.wrap_i64];omega
     go_wp2_with fail
     rename_i KA hKA
     refine(fun M:∀(g4 n:Nat) (T:World),Hid (zV T B ⟨sp,si,sd,al,am,.slice (E (U g3 0)) (k+1) l,.slice (E (U g4 0)) (k+1) n⟩ c ep {m with num:=(k:Int)+1,QL:=xZ m.QL ⟨ep,(k:Int)+1⟩ ⟨a.2.kd,a.2.s,slot,m.now+c.le⟩} m.now ns (Zn ep (k+1)) (yK ep m.QL k++[m.now+c.le]))->Hid (T.1[jb]?=E (.cells #[I a.2.kd,I a.2.s.t,I a.2.s.sr,I a.2.s.wn,I a.2.se,I a.2.ti,I a.2.rest,I ep,I ((k:Int)+1),I slot,I (m.now+c.le)] 51 (0,0)))->Hid (Bel B w T)->KA ((?bb:Nat->Nat->Act) g4 n) T=>?main2) ?hc2
     case main2=>
      go_region_law (refine vs rfl (.tmp 59) (.tmp 70) 42 3 1 8 rfl underlying42 zij rfl (by decide) B (.slice ua k uc) k ((yK ep m.QL k).map (I)) (by simp[Act.eval]) (jq ((zms (ud i)).alloc _)) T.1.size [I (m.now+c.le)] 3 (0,0) (by simp[Act.eval]) (jp T _) rfl (by simp[Value.oneCell']) ?h63 ?hby ?hbs ?_;(case h63=>(simp only[maxLen];omega));(case hby=>omega);(case hbs=>exact J (J v (ud HB).size) (vD _ _));intro g4 n w5 f d z aw;have A:zh (fun k'=>(Value.slice ua k uc).ownBlock=E k') T w5:=zh.grown ((zh.refl _ _).alloc _) (vo d) (fun k hk _=>hk);have u:=A.heap ((ud HS).head) (fun e=>zr (ud HS).head (ud i) (by decide) _ e rfl);obtain⟨-,-,-,d3,-,-,-,-,-,d9,-,-,aP,-⟩:=zc u;have df:=fun j=>zv u j;have dl:=zd u;dsimp only at df dl;have G:=ze f;have o:=ze A;have a4:=ze z;clear f A u d z)
      all_goals
       have b:=ud HS
       have f:w5.ownsRow B 3 1 (.slice (E (U g4 0)) (k+1) n) (yK ep m.QL k++[m.now+c.le]).length ((yK ep m.QL k++[m.now+c.le]).map (I)):=by
        rw[List.length_append,xd,List.map_append]
        exact ud G
       have a0:=b.setUnts (ud o) f (fun q hq=>by
        have e:g4=q:=by simpa[Value.ownBlock]using hq
        subst e
        rcases ud a4 with h|h
        ·exact .inl h
        ·right;rw[h];exact vD _ _)
       have ac:Bel B w w5:=(ud HB).trans (Bel.row b.urow (by decide) (ud o) (J v (ud HB).size))
       have af:=(ud o).heap (ud HJ) (fun e=>zr (ud HJ) b.urow (by decide) _ e rfl)
       exact M g4 n _ (ze a0) (ze ((Qp w5 sp 12 _).heap af az)) (ze (ac.trans (Bel.set ((ud o).heap b.head (fun e=>zr b.head b.urow (by decide) _ e rfl)) (by decide) aC _)))
     case hc2=>
      intro g4 n U9 a8 an aE
      refine hKA _ _ ?_
      try dsimp only
      clear hKA HS HJ HB i x3 x9 X xl xf
      obtain⟨-,-,x3,-,-,-,x9,-,-,-⟩:=(ud a8).cells
      dsimp only at x3 x9
      have xl:=(ud a8).lt
      dsimp only at xl
      obtain⟨-,-,-,-,-,-,-,-,-,j9,aZ,-⟩:=zc (ud an)
      have jl:=zd (ud an)
      go_wp2_with fail
      go_still (by kernel_rfl)
      go_wp2_with fail
      go_ret
      have b:=ud a8
      have aI:yK ep (xZ m.QL ⟨ep,(k:Int)+1⟩ ⟨a.2.kd,a.2.s,slot,m.now+c.le⟩) (k+1)=yK ep m.QL k++[m.now+c.le]:=zmr (ud HO).ok.nq k _
      rw[<-aI]at b
      exact⟨rfl,_,ud a1,⟨_,k+1,rfl,b.later (K _ _).drew,by show(k:Int)+1=((k+1:Nat):Int);omega,(ud a1).ok hc hf (ud HO),by omega,by omega⟩,(ud aE).drew,.inr (by show(k:Int)+1=m.num+1;omega),ud F⟩
end Go.Proofs.YtndhpgciopcncaaGreatDoor
