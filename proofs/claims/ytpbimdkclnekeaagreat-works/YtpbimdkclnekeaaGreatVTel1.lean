import Derived.Test.YtpbimdkclnekeaaGreatVTel0
import Derived.Test.YtpbimdkclnekeaaGreatVPst0
import Derived.Test.YtpbimdkclnekeaaGreatVMlz5
open Go.Value renaming int → I
open Go.IntKind renaming i64 → J
open Option renaming none → K
open Option renaming some → O
open Go.RowKit renaming Below → E
open Go.RowKit.Below renaming refl → Q
open Nat renaming le_refl → Y
open Go.IntKind (i32)
set_option linter.unusedVariables false
set_option maxRecDepth 20000
set_option maxHeartbeats 8000000
open Go.Proofs.Tryz
namespace Go.Proofs.YtpbimdkclnekeaaGreat
open Go.ChangeMaps (setBlock)
open Go.RowKit Go.Maps Go.Shelf
theorem zgN{w:World}{b:Nat}{c:Cf}{tv:Value}{ep num:Int}{tb qb:Nat}{TL:List (Jk×Tsk)}{QL:List (Tok×Lse)}(h:zM w b c tv ep num tb qb TL QL)(x:Tsk)(hu:∀p∈QL,p.2.job≠x.key):
  Calls prog 89 #[.pointer (O ⟨b,0,K⟩),.agg #[.iface x.jt (.agg #[I J x.s.t,I J x.s.se,I J x.s.we]),I J x.si,I J x.tc,I J x.rest]] w fun e w'=>e=.returned (.agg #[I J x.kd,I J x.s.t,I J x.s.se,I J x.s.we,I J x.si,I J x.tc,I J x.rest,I J 0,I J 0,I J (-1),I J 0])/\E w.1.size w w':=by
 have aI:=h.lt
 have au:=h.cell10
 obtain⟨y0,y1,aa,yz⟩:=box2 w (.cells #[.iface x.jt (.agg #[I J x.s.t,I J x.s.se,I J x.s.we]),I J x.si,I J x.tc,I J x.rest] 162) (.cells #[I J 0,I J 0,I J 0,I J 0,I J 0,I J 0,I J 0,I J 0,I J 0,I J 0,I J 0] 51)
 have a9:=ze (keyOf_any x ((w.alloc (.cells #[.iface x.jt (.agg #[I J x.s.t,I J x.s.se,I J x.s.we]),I J x.si,I J x.tc,I J x.rest] 162)).alloc (.cells #[I J 0,I J 0,I J 0,I J 0,I J 0,I J 0,I J 0,I J 0,I J 0,I J 0,I J 0] 51)))
 have H:=ze h
 have Y0:=ze y0
 have Y1:=ze y1
 have a1:=ze aa
 have YZ:=ze yz
 clear h y0 y1 aa yz
 go_enter func89,ntmps89
 go_wp2_with fail
 refine(ud a9).mono ?_
 rintro e d ⟨rfl,A⟩
 have aP:=A.size
 have yz:=ud YZ
 have t0:=(A.block _ (by omega)).trans (ud Y0)
 have r0:=(A.block _ (by omega)).trans (ud Y1)
 have a4:=(ud a1).trans (A.mono (ud a1).size)
 have R:=(ud H).later a4
 have av:=R.cell10
 have aH:=R.lt
 have aO:=zd t0
 have aB:=zd r0
 obtain⟨-,s1,s2,s3,-⟩:=zc t0
 have R0:=ze r0
 have ak:=ze a4
 have am:=ze R
 clear A yz t0 r0 a4 R au Y0 Y1 a1 YZ a9
 --LOOP
 obtain⟨es,a,U,V⟩:=(ud am).leases
 obtain⟨v0,v1,g,vz⟩:=box2 d (.cells #[I J x.kd,I J x.s.t,I J x.s.se,I J x.s.we] 147) (.cells #[I J x.kd,I J x.s.t,I J x.s.se,I J x.s.we,I J x.si,I J x.tc,I J x.rest,I J 0,I J 0,I J (-1),I J 0] 51)
 have m:=(g.block _ (zd U)).trans U
 have a0:=run_range_map (P:=prog) ((d.alloc (.cells #[I J x.kd,I J x.s.t,I J x.s.se,I J x.s.we] 147)).alloc (.cells #[I J x.kd,I J x.s.t,I J x.s.se,I J x.s.we,I J x.si,I J x.tc,I J x.rest,I J 0,I J 0,I J (-1),I J 0] 51)) 153 _ _ qb es a underlying153 m
 have a8:=ze (And.intro v0 (And.intro v1 (And.intro g (And.intro vz (And.intro m V)))))
 have aM:=zd U
 clear U V v0 v1 g vz m
 go_wp2_with fail
 obtain⟨v0,v1,g,vz,m,V⟩:=ud a8
 generalize((d.alloc (.cells #[I J x.kd,I J x.s.t,I J x.s.se,I J x.s.we] 147)).alloc (.cells #[I J x.kd,I J x.s.t,I J x.s.se,I J x.s.we,I J x.si,I J x.tc,I J x.rest,I J 0,I J 0,I J (-1),I J 0] 51))=N at*
 have aC:=(g.block _ aB).trans (ud R0)
 have aE:=g.size
 clear a0 av s1 s2 s3 a8
 have HM:=ze V
 have aG:=ze m
 have ar:=ze v0
 have al:=ze g
 have a2:=ze vz
 have ap:=ze aC
 go_loopw [7,8] (fun _ _ wr=>∃(f:Array Nat) (c0:Nat),wr.1[(d.1.size+1+1)]?=O (.mapIter (O qb) a f c0)/\a<=c0/\wr.1[qb]?=O (.map es a)/\wr.1[d.1.size+1]?=O (Q8 x (⟨0,0⟩,-1,0))/\zk (fun k=>k=d.1.size+1) N wr)
  (fun _ _ wr=>Zj es (d.1.size+1+1) wr)
 case atStart=>
  have a3:E N.1.size N (N.alloc (.mapIter (O qb) a #[] a)):=(Q _ _).alloc (Y _) _
  refine⟨#[],a,by have:=zo N (.mapIter (O qb) a #[] a);rw[show N.1.size=(d.1.size+1+1)from ud a2]at this;exact this,Y _,(a3.block _ (zd m)).trans m,(a3.block _ (zd v1)).trans v1,zk.of_below a3⟩
 case round=>
  obtain⟨f,c0,hr,a5,Z,T,hK⟩:=hrel
  have aN:=zd hr
  have aj:N.1.size=(d.1.size+1+1):=ud a2
  rcases run_next_at (P:=prog) wr 0 (d.1.size+1+1) qb a c0 f es a hr Z (ud HM).born a5 with⟨hz,l⟩|⟨e,a6,w1,M,l⟩
  ·have G:=hK.heap (k:=w.1.size+1) (ud ap) (by omega)
   have F:wr.1[d.1.size+1]?=O (.cells #[I J x.kd,I J x.s.t,I J x.s.se,I J x.s.we,I J x.si,I J x.tc,I J x.rest,I J 0,I J 0,I J (-1),I J 0] 51 (0,0)):=T
   obtain⟨o0,o1,o2,o3,o4,o5,o6,o7,o8,o9,aU,-⟩:=zc F
   obtain⟨z0,z1,z2,z3,z4,z5,z6,z7,z8,z9,aW,-⟩:=zc G
   have zf:=fun j=>zD G j
   have aL:=zd G
   have aK:=zd F
   have aF:¬d.1.size+1=w.1.size+1:=by omega
   have ao:=ze hK
   have aq:=ze G
   clear aj
   clear hz T F hK G hr Z a5
   go_wp2_with fail
   have hf:=kH (ud aq) (I J x.kd) (I J x.s.t) (I J x.s.se) (I J x.s.we) (I J x.si) (I J x.tc) (I J x.rest) (I J 0) (I J 0) (I J (-1)) (I J 0)
   have S:=ud ao
   have ax:E w.1.size N wr:=⟨S.os,S.tape,S.output,S.size,fun j hj=>S.block j (by have:=ud a2;omega) (by omega)⟩
   have hbb:=(ud ak).trans (((ud al).mono (by omega)).trans ax)
   refine bodyPost_ret (v:=.agg #[I J x.kd,I J x.s.t,I J x.s.se,I J x.s.we,I J x.si,I J x.tc,I J x.rest,I J 0,I J 0,I J (-1),I J 0]) (results_cell_row results89 _ _ (w.1.size+1) _ _ _ _ rfl hf underlying51 rfl (by kernel_rfl)) rfl ?_
   exact⟨rfl,hbb.trans (KZ (Nat.le_succ _) (I J x.kd) (I J x.s.t) (I J x.s.se) (I J x.s.we) (I J x.si) (I J x.tc) (I J x.rest) (I J 0) (I J 0) (I J (-1)) (I J 0))⟩
  ·have an:=ze a6
   obtain⟨C,az⟩:=xC.1 a6
   have ag:w1.1[(d.1.size+1+1)]?=O (.mapIter (O qb) a f c0):=by rcases M with rfl|rfl<;>exact hr
   have af:w1.1[qb]?=O (.map es a):=by rcases M with rfl|rfl<;>exact Z
   have ae:w1.1[d.1.size+1]?=O (Q8 x (⟨0,0⟩,-1,0)):=by rcases M with rfl|rfl<;>exact T
   have ay:qb≠(d.1.size+1+1):=by omega
   obtain⟨X,hX⟩:∃X,setBlock w1 (d.1.size+1+1) (.mapIter (O qb) a (f.push e.born) a)=X:=⟨_,rfl⟩
   have r:X.1[(d.1.size+1+1)]?=O (.mapIter (O qb) a (f.push e.born) a):=by rw[<-hX];exact xN (zd ag) _
   have o:X.1[qb]?=O (.map es a):=by rw[<-hX,xw ay];exact af
   have q:X.1[d.1.size+1]?=O (Q8 x (⟨0,0⟩,-1,0)):=by rw[<-hX,xw (by omega)];exact ae
   have ad:zk (fun k=>k=(d.1.size+1+1)) wr X:=by
    rw[<-hX];rcases M with rfl|rfl
    ·exact qd _
    ·exact(zk.refl (fun k=>k=(d.1.size+1+1)) wr).drew.trans (qd _) (fun _ _ h=>h)
   have z:zk (fun k=>k=d.1.size+1) N X:=hK.trans ad (fun i hi e=>by omega)
   rw[hX]at l
   have ab:=run_entry_at (P:=prog) X (d.1.size+1+1) qb a f es a e r o C (ud HM).once
   obtain⟨B,S,hv⟩:=XY qZ (ud HM) C
   obtain⟨⟨t',y⟩,ai⟩:∃y,vK xz QL e=y:=⟨_,rfl⟩
   rw[ai]at B S hv
   have n:e.key=yd t':=S
   have L:e.val=kZ y:=hv
   have aD:=ze n
   unfold yd at n
   unfold kZ at L
   rw[n,L]at l ab
   have aw:=zd r
   have D:=z.heap (ud ar) (by omega)
   obtain⟨aQ,aR,aS,aT,-⟩:=zc D
   have aJ:=zd D
   have aA:=zd q
   have ac:=fun W=>zeL ⟨y.kd,y.s⟩ x.key W
   have a7:X.1[d.1.size+1]?=O (.cells #[I J x.kd,I J x.s.t,I J x.s.se,I J x.s.we,I J x.si,I J x.tc,I J x.rest,I J 0,I J 0,I J (-1),I J 0] 51 (0,0)):=q
   obtain⟨-,-,-,-,-,-,-,q7,q8,q9,aV,-⟩:=zc a7
   have qf:=fun j=>zD a7 j
   have HP:=ze (And.intro r (And.intro o (And.intro q (And.intro z (And.intro C (And.intro B hr))))))
   have hV:E X.1.size X ((X.alloc (.cells #[I J t'.ep,I J t'.num] 49)).alloc (.cells #[I J y.kd,I J y.s.t,I J y.s.se,I J y.s.we,I J y.slot,I J y.til] 149)):=((Q _ _).alloc (Y _) _).alloc ((Q _ _).alloc (Y _) _).size _
   have HV:=ze hV
   have u:decide ((⟨y.kd,y.s⟩:Jk)=x.key)=true\/decide ((⟨y.kd,y.s⟩:Jk)=x.key)=false:=by cases decide ((⟨y.kd,y.s⟩:Jk)=x.key)<;>simp
   clear aj
   clear ag af ae hX M S hv ai a6 C az n L Z r o q z ad hK T hr a5 a7 D hV
   rcases u with u|u
   ·exact absurd (of_decide_eq_true u) (hu (t',y) B)
   ·simp only[u]at ac
    dsimp only[Tsk.key]at ac
    clear u B
    go_wp2_with fail
    obtain⟨r,o,q,z,C,B,hr⟩:=ud HP
    have hV:=ud HV
    have ah:=(hV.block _ aw).trans r
    refine⟨⟨_,_,ah,Y _,(hV.block _ (zd o)).trans o,(hV.block _ aA).trans q,qS z hV⟩,?_⟩
    ·rw[xy ah,xy hr];exact ya (ud an)
theorem zaH{w:World}{i:Ids}{c:Cf}{ep:Int}{m:MS}(h:zy w i c ep m)(hc:c.ok)(t:Tok)(ht:t.wf){g:Lse}(hg:zV m.QL t=O g)(hj:g.job.wf)(s:Sg)(si tc rest:Int)(hx:zV m.TL g.job=O ⟨true,s,si,tc,rest⟩)(hs:inR c s)(k:Nat)(hk:s.t=k)(ak:m.L.length<=1000)(ao:m.Gl.length<=1000000000)
  (ah:∀p∈yi m.L s ⟨3,xQ (qk c m.L s.se s.we k)⟩,inR c p.1) (A:(yi m.L s ⟨3,xQ (qk c m.L s.se s.we k)⟩).length<=2000) (a1:0<=m.now/\m.now<=100000) (aq:m.TL.length<=50000):
  Calls prog 18 #[.pointer (O ⟨i.x,0,K⟩),.agg #[I J t.ep,I J t.num]] w fun e w'=>e=.returned (I J 0)/\∃d,zy w' i c ep {m with L:=yi m.L s ⟨3,xQ (qk c m.L s.se s.we k)⟩,Gl:=m.Gl,TL:=d,QL:=xt m.QL t}/\zk (zU i) w w'/\qU c {m with L:=yi m.L s ⟨3,xQ (qk c m.L s.se s.we k)⟩,Gl:=m.Gl,TL:=xt m.TL g.job,QL:=xt m.QL t} d:=by
 have l:=fun(W:World) (hW:zy W i c ep m)=>ze (zjj hW hc s hs k hk (by omega))
 generalize yi m.L s ⟨3,xQ (qk c m.L s.se s.we k)⟩=L2 at*
 clear hk
 have v:E w.1.size w (w.alloc (.cells #[I J t.ep,I J t.num] 49)):=(Q _ _).alloc (Y _) _
 have q0:=zo w (.cells #[I J t.ep,I J t.num] 49)
 have qz:=zF w (.cells #[I J t.ep,I J t.num] 49)
 have hX:=h.later v
 obtain⟨-,-,-,-,-,-,-,-,c8,-,ag⟩:=hX.cells
 have au:=hX.lt
 have ap:=zd q0
 obtain⟨k0,k1,-⟩:=zc q0
 have a0:(⟨(qV (zV m.QL t)).kd,(qV (zV m.QL t)).s⟩:Jk).wf:=by rw[hg];exact hj
 have HL:∀W,E w.1.size w W->Hid (Calls prog 41 #[.pointer (O ⟨i.b,0,K⟩),.agg #[I J t.ep,I J t.num]] W fun e w'=>e=.returned (.tuple #[.iface 175 (.agg #[I J s.t,I J s.se,I J s.we]),.bool true])/\E W.1.size W w'):=fun W hW=>by
  have:=kX ((h.later (w':=W) hW).board) t ht a0
  rw[hg]at this
  have e1:zV m.TL ⟨(qV (O g)).kd,(qV (O g)).s⟩=O ⟨true,s,si,tc,rest⟩:=hx
  rw[e1]at this
  exact this
 have C:=ze v
 have QZ:=ze qz
 have H:=ze h
 have Q0:=ze q0
 have HG:=ze hg
 have am:=ze hx
 clear h hX v q0 qz a0 hg hx
 go_enter func18,ntmps18
 go_wp2_with fail
 have p1:w.1.size<w.1.size+1:=by omega
 have p2:i.x<w.1.size+1:=by have:=ud QZ;omega
 generalize(w.alloc (.cells #[I J t.ep,I J t.num] 49))=X at*
 generalize hN:w.1.size+1=N at*
 have aj:Nonempty (zm N X):=zm.some _ _
 have ai:=fun(u:zm N X) b o h=>u.cell b o h
 have V:N<=X.1.size:=by rw[ud QZ];exact Y _
 have aa:=ze V
 have F:Hid (w.1.size<=N):=by show w.1.size<=N;omega
 have HN:=ze hN
 clear V hN
 refine zh N (by kernel_rfl) (by kernel_rfl) ?_
 repeat(go_big_quiet_step (first
  |(go_at_call 41;exact Calls.later (ud aa) (ud (HL _ ((ud C).trans (Below.mono (Subtype.property _) (ud F))))))))
 refine wpQuiet_nil ?_
 rintro⟨w1,n⟩
 clear ai aj
 dsimp only
 have r:=(ud C).trans (n.mono (ud F))
 have a9:=ze ((ud H).later r)
 have a3:=ze r
 have a2:=(n.block _ (show w.1.size<N by have:=ud HN;omega)).trans (ud Q0)
 have ad:=ze a2
 have a5:=l w1 (ud a9)
 clear l
 clear k0 k1 ag n r a2 HL
 go_wp2_with(first|(go_at_call 42;refine(ud a5).mono ?_;rintro e V1 ⟨rfl,S,hK1⟩;have G:=ze S;have D:=ze hK1;clear S hK1))
 have j:=ud G
 obtain⟨-,-,-,-,-,-,-,-,-,-,an⟩:=j.cells
 have ar:=j.lt
 have y:=(ud H).foot_lt
 have B:V1.1[w.1.size]?=O (.cells #[I J t.ep,I J t.num] 49 (0,0)):=(ud D).heap (ud ad) (fun e=>by have h1:=y i.lb (.inr (.inl (.inr (.inr (.inl rfl)))));have h2:=y i.gb (.inr (.inl (.inr (.inr (.inr rfl)))));omega)
 obtain⟨t0,t1,-⟩:=zc B
 have al:=zd B
 have a4:=ze (zbG ((j.later (Q _ _).drew).board) t ht (ud HG) hj)
 clear j B y
 refine xH 5 (by kernel_rfl) (by kernel_rfl) ?_
 simp only[List.take_succ_cons,List.take_zero,List.drop_succ_cons,List.drop_zero]
 repeat still_step
 refine wpStill_nil ?_
 go_wp2_with(first|(go_at_call 43;refine(ud a4).mono ?_;rintro e V2 ⟨rfl,M,P⟩;have ae:=ze M;have a6:=ze P;clear M P))
 have z:zk (ZU i.b i.tb i.qb) V1 V2:=((zk.refl (ZU i.b i.tb i.qb) V1).drew).trans ((ud a6).mono (fun k _ e=> .inr e)) (fun _ _ e=>e)
 have T:=(ud G).putBoard (ud ae) z
 have a8:=ze z
 have ac:=ze (Vv T hc ah A a1 (by have:=Zk (L:=m.TL) (a:=g.job);show(xt m.TL g.job).length<=50000;omega))
 clear z T
 go_wp2_with(first|(go_at_call 44;refine(ud ac).mono ?_;rintro e V3 ⟨rfl,d,U,R,Z⟩;have af:=ze U;have a7:=ze R;have ab:=ze Z;clear U R Z))
 go_ret
 have k1:zk (zU i) w V1:=(zk.of_below (f:=zU i) (ud a3)).trans ((ud D).mono (fun q _ e=> .inr (.inl (.inr (.inr (.inl e)))))) (fun _ _ e=>e)
 have k2:=k1.trans ((ud a8).mono (fun q _ e=> .inr (.inr e))) (fun _ _ e=>e)
 have k3:=k2.trans ((ud a7).mono (fun q _ e=> .inr (.inr (.inr (.inl e))))) (fun _ _ e=>e)
 exact⟨rfl,d,ud af,k3,ud ab⟩
theorem YN{w:World}{i:Ids}{c:Cf}{ep:Int}{m:MS}(h:zy w i c ep m)(hc:c.ok)(t:Tok)(ht:t.wf){g:Lse}(hg:zV m.QL t=O g)(hj:g.job.wf)(s:Sg)(si tc rest:Int)(hx:zV m.TL g.job=O ⟨false,s,si,tc,rest⟩)(hs:inR c s)(al:m.L.length<=1000)(ai:m.Gl.length<=1000000000)
  (ah:∀p∈xt m.L s,inR c p.1) (A:(xt m.L s).length<=2000) (a1:0<=m.now/\m.now<=100000) (aq:m.TL.length<=50000):
  Calls prog 18 #[.pointer (O ⟨i.x,0,K⟩),.agg #[I J t.ep,I J t.num]] w fun e w'=>e=.returned (I J 0)/\∃d,zy w' i c ep {m with L:=xt m.L s,Gl:=qt m.Gl s (),TL:=d,QL:=xt m.QL t}/\zk (zU i) w w'/\qU c {m with L:=xt m.L s,Gl:=qt m.Gl s (),TL:=xt m.TL g.job,QL:=xt m.QL t} d:=by
 have l:=fun(W:World) (hW:zy W i c ep m)=>ze (zji hW s hs.1 ai)
 generalize xt m.L s=L2 at*
 generalize qt m.Gl s ()=G2 at*
 have v:E w.1.size w (w.alloc (.cells #[I J t.ep,I J t.num] 49)):=(Q _ _).alloc (Y _) _
 have q0:=zo w (.cells #[I J t.ep,I J t.num] 49)
 have qz:=zF w (.cells #[I J t.ep,I J t.num] 49)
 have hX:=h.later v
 obtain⟨-,-,-,-,-,-,-,-,c8,-,ag⟩:=hX.cells
 have au:=hX.lt
 have ap:=zd q0
 obtain⟨k0,k1,-⟩:=zc q0
 have a0:(⟨(qV (zV m.QL t)).kd,(qV (zV m.QL t)).s⟩:Jk).wf:=by rw[hg];exact hj
 have HL:∀W,E w.1.size w W->Hid (Calls prog 41 #[.pointer (O ⟨i.b,0,K⟩),.agg #[I J t.ep,I J t.num]] W fun e w'=>e=.returned (.tuple #[.iface 177 (.agg #[I J s.t,I J s.se,I J s.we]),.bool true])/\E W.1.size W w'):=fun W hW=>by
  have:=kX ((h.later (w':=W) hW).board) t ht a0
  rw[hg]at this
  have e1:zV m.TL ⟨(qV (O g)).kd,(qV (O g)).s⟩=O ⟨false,s,si,tc,rest⟩:=hx
  rw[e1]at this
  exact this
 have C:=ze v
 have QZ:=ze qz
 have H:=ze h
 have Q0:=ze q0
 have HG:=ze hg
 have an:=ze hx
 clear h hX v q0 qz a0 hg hx
 go_enter func18,ntmps18
 go_wp2_with fail
 have p1:w.1.size<w.1.size+1:=by omega
 have p2:i.x<w.1.size+1:=by have:=ud QZ;omega
 generalize(w.alloc (.cells #[I J t.ep,I J t.num] 49))=X at*
 generalize hN:w.1.size+1=N at*
 have ak:Nonempty (zm N X):=zm.some _ _
 have aj:=fun(u:zm N X) b o h=>u.cell b o h
 have V:N<=X.1.size:=by rw[ud QZ];exact Y _
 have aa:=ze V
 have F:Hid (w.1.size<=N):=by show w.1.size<=N;omega
 have HN:=ze hN
 clear V hN
 refine zh N (by kernel_rfl) (by kernel_rfl) ?_
 repeat(go_big_quiet_step (first
  |(go_at_call 41;exact Calls.later (ud aa) (ud (HL _ ((ud C).trans (Below.mono (Subtype.property _) (ud F))))))))
 refine wpQuiet_nil ?_
 rintro⟨w1,n⟩
 clear aj ak
 dsimp only
 have r:=(ud C).trans (n.mono (ud F))
 have a9:=ze ((ud H).later r)
 have a3:=ze r
 have a2:=(n.block _ (show w.1.size<N by have:=ud HN;omega)).trans (ud Q0)
 have ad:=ze a2
 have a5:=l w1 (ud a9)
 clear l
 clear k0 k1 ag n r a2 HL
 go_wp2_with(first|(go_at_call 42;refine(ud a5).mono ?_;rintro e V1 ⟨rfl,S,hK1⟩;have G:=ze S;have D:=ze hK1;clear S hK1))
 have j:=ud G
 obtain⟨-,-,-,-,-,-,-,-,-,-,ao⟩:=j.cells
 have ar:=j.lt
 have y:=(ud H).foot_lt
 have B:V1.1[w.1.size]?=O (.cells #[I J t.ep,I J t.num] 49 (0,0)):=(ud D).heap (ud ad) (fun e=>by have h1:=y i.lb (.inr (.inl (.inr (.inr (.inl rfl)))));have h2:=y i.gb (.inr (.inl (.inr (.inr (.inr rfl)))));omega)
 obtain⟨t0,t1,-⟩:=zc B
 have am:=zd B
 have a4:=ze (zbG ((j.later (Q _ _).drew).board) t ht (ud HG) hj)
 clear j B y
 refine xH 5 (by kernel_rfl) (by kernel_rfl) ?_
 simp only[List.take_succ_cons,List.take_zero,List.drop_succ_cons,List.drop_zero]
 repeat still_step
 refine wpStill_nil ?_
 go_wp2_with(first|(go_at_call 43;refine(ud a4).mono ?_;rintro e V2 ⟨rfl,M,P⟩;have ae:=ze M;have a6:=ze P;clear M P))
 have z:zk (ZU i.b i.tb i.qb) V1 V2:=((zk.refl (ZU i.b i.tb i.qb) V1).drew).trans ((ud a6).mono (fun k _ e=> .inr e)) (fun _ _ e=>e)
 have T:=(ud G).putBoard (ud ae) z
 have a8:=ze z
 have ac:=ze (Vv T hc ah A a1 (by have:=Zk (L:=m.TL) (a:=g.job);show(xt m.TL g.job).length<=50000;omega))
 clear z T
 go_wp2_with(first|(go_at_call 44;refine(ud ac).mono ?_;rintro e V3 ⟨rfl,d,U,R,Z⟩;have af:=ze U;have a7:=ze R;have ab:=ze Z;clear U R Z))
 go_ret
 have k1:zk (zU i) w V1:=(zk.of_below (f:=zU i) (ud a3)).trans ((ud D).mono (fun q _ e=> .inr (.inl (.inr (.inr e))))) (fun _ _ e=>e)
 have k2:=k1.trans ((ud a8).mono (fun q _ e=> .inr (.inr e))) (fun _ _ e=>e)
 have k3:=k2.trans ((ud a7).mono (fun q _ e=> .inr (.inr (.inr (.inl e))))) (fun _ _ e=>e)
 exact⟨rfl,d,ud af,k3,ud ab⟩
theorem zfy{w:World}{i:Ids}{c:Cf}{ep:Int}{m:MS}(h:zy w i c ep m)(n:Int)(hn:n<1\/1000<n\/100000<m.now+n)(a:0<=m.now/\m.now<=100000):
  Calls prog 36 #[.pointer (O ⟨i.x,0,K⟩),I J n] w fun e w'=>e=.returned (I J 5)/\E w.1.size w w':=by
 obtain⟨-,-,-,-,-,-,-,-,o,-,-⟩:=h.cells
 have l:=h.lt
 obtain⟨j,k⟩:=a
 clear h
 by_cases b:n<1
 ·clear hn
  go_enter func36,ntmps36
  go_wp2_with fail
  go_ret
  exact⟨rfl,Q _ _⟩
 ·have d:decide (n<1)=false:=by simpa using b
  by_cases f:1000<n
  ·clear hn
   go_enter func36,ntmps36
   go_wp2_with fail
   go_ret
   exact⟨rfl,Q _ _⟩
  ·have g:decide (1000<n)=false:=by simpa using f
   have p:100000<m.now+n:=by omega
   clear hn
   go_enter func36,ntmps36
   go_wp2_with fail
   go_ret
   exact⟨rfl,Q _ _⟩
theorem zdm{w:World}{i:Ids}{c:Cf}{ep:Int}{m:MS}(h:zy w i c ep m)(hc:c.ok)(n:Int)(hn:1<=n/\n<=1000)(B:0<=m.now/\m.now+n<=100000)(hI:ziP 1000000 100000 m.TL m.QL)(hL:∀p∈m.L,inR c p.1)(A:m.L.length<=2000)(V:∀a QL',zbz (m.now+n) m.TL m.QL a QL'->a.length<=50000):
  Calls prog 36 #[.pointer (O ⟨i.x,0,K⟩),I J n] w fun e w'=>e=.returned (I J 0)/\∃f d a,zy w' i c ep {m with now:=m.now+n,TL:=a,QL:=d}/\zk (zU i) w w'/\zbz (m.now+n) m.TL m.QL f d/\(∀p∈d,m.now+n<p.2.til)/\qU c {m with now:=m.now+n,TL:=f,QL:=d} a:=by
 obtain⟨-,-,-,-,-,-,-,-,c8,-,-⟩:=h.cells
 have a8:=h.lt
 obtain⟨a4,a5⟩:=hn
 obtain⟨a7,D⟩:=B
 have a0:decide (n<1)=false:=by simp;omega
 have a1:decide (1000<n)=false:=by simp;omega
 have a2:decide (100000<m.now+n)=false:=by simp;omega
 have a3:=fun j=>zD h.head j
 have y:=h.setNow (m.now+n)
 have z:zk (fun k=>k=i.x) w (w.setCell ⟨i.x,8,K⟩ (I J (m.now+n))):=zn (zk.refl _ _) rfl
 obtain⟨-,-,-,-,-,-,-,-,W,-,U⟩:=y.cells
 have a6:=y.lt
 dsimp only at W
 have Z:=ze (zcP ((y.later (Q _ _).drew).board) (m.now+n) ⟨by omega,D⟩ hI)
 have HS:=ze y
 have N:=ze z
 clear h y z
 go_enter func36,ntmps36
 go_wp2_with fail
 generalize(w.setCell ⟨i.x,8,K⟩ (I J (m.now+n)))=X at*
 refine xH 8 (by kernel_rfl) (by kernel_rfl) ?_
 simp only[List.take_succ_cons,List.take_zero,List.drop_succ_cons,List.drop_zero]
 repeat still_step
 refine wpStill_nil ?_
 go_wp2_with(first|(go_at_call 76;refine(ud Z).mono ?_;rintro e V1 ⟨rfl,f,d,o,hK1,r,C⟩;have F:=ze o;have G:=ze hK1;have l:=ze r;have S:=ze C;clear o hK1 r C))
 have g:zk (ZU i.b i.tb i.qb) X V1:=((zk.refl (ZU i.b i.tb i.qb) X).drew).trans ((ud G).mono (fun k _ e=> .inr e)) (fun _ _ e=>e)
 have t:=(ud HS).putBoard (ud F) g
 have M:=ze g
 have R:=ze (Vv t hc hL A ⟨by show 0<=m.now+n;omega,D⟩ (V _ _ (ud l)))
 clear g t W U
 go_wp2_with(first|(go_at_call 44;refine(ud R).mono ?_;rintro e V3 ⟨rfl,a,u,s,v⟩;have T:=ze u;have H:=ze s;have P:=ze v;clear u s v))
 go_ret
 have k1:zk (zU i) w X:=(ud N).mono (fun q _ e=> .inl e)
 have k2:=k1.trans ((ud M).mono (fun q _ e=> .inr (.inr e))) (fun _ _ e=>e)
 have k3:=k2.trans ((ud H).mono (fun q _ e=> .inr (.inr (.inr (.inl e))))) (fun _ _ e=>e)
 exact⟨rfl,f,d,a,ud T,k3,ud l,ud S,ud P⟩
theorem zaz{w:World}{wb A x d r:Nat}{c:Cf}{ct mv td:Value}{ep:Int}(S:w.1[A]?=O (zw x d c ct mv td ep))(H:w.ownsRow 0 108 1 mv 1 [.pointer (O ⟨r,0,K⟩)])(o:Ops){now U T A1 A2 A3 A4:Int}
  (ab:∀V,E w.1.size w V->Calls prog 13 #[.pointer (O ⟨x,0,K⟩)] V fun e V'=>e=.returned (.agg #[I J now,I J U,I J T,I J ep,I J A1,I J A2,I J A3,I J A4])/\E V.1.size V V')
  (ad:∀V,E w.1.size w V->Calls prog 108 #[.pointer (O ⟨r,0,K⟩)] V fun e V'=>e=.returned (.agg #[I J now,I J U,I J T,I J ep,I J A1,I J A2,I J A3,I J A4])/\E V.1.size V V'):
  Calls prog 56 #[.pointer (O ⟨wb,0,K⟩),.pointer (O ⟨A,0,K⟩),.agg #[I J 5,I J o.on,I J o.a,I J o.b,I J o.c,I i32 o.v,I J o.te,I J o.tn,I J o.fs,I J o.fe,I J o.fd,I J o.fw,I J o.fk,I J o.fq,.slice o.fa o.fn o.fc]] w fun e w'=>e=.returned (.bool true)/\∃(Z:World) (g cap:Nat),w'=Z.setCell ⟨A,9,K⟩ (.slice (O ⟨g,0,K⟩) 1 cap)/\E w.1.size w Z/\Z.ownsRow 0 108 1 (.slice (O ⟨g,0,K⟩) 1 cap) 1 [.pointer (O ⟨r,0,K⟩)]/\w.1.size<=g:=by
 have a3:=zd S
 obtain⟨y0,y1,y2,D,yz⟩:=jr w (.cells #[I J 5,I J o.on,I J o.a,I J o.b,I J o.c,I i32 o.v,I J o.te,I J o.tn,I J o.fs,I J o.fe,I J o.fd,I J o.fw,I J o.fk,I J o.fq,.slice o.fa o.fn o.fc] 68) (.cells #[I J 0,I J 0,I i32 0,I i32 0] 114) (.cells #[I J 0,I J 0,I J 0,I J 0,I J 0,I J 0,I J 0,I J 0] 37)
 have ac:=ze (ab _ D)
 have ag:=fun(V:World) (hb:E w.1.size w V)=>ze (ad V hb)
 obtain⟨mb,aH,an,_,L⟩:=H.form (by omega)
 have av:Hid (w.cell? ⟨mb,0,K⟩=O (.pointer (O ⟨r,0,K⟩))):=by
  have:=H
  rw[an]at this
  show _=_
  rw[this.cellAt 0 (by omega)];rfl
 have p0:(((w.alloc (.cells #[I J 5,I J o.on,I J o.a,I J o.b,I J o.c,I i32 o.v,I J o.te,I J o.tn,I J o.fs,I J o.fe,I J o.fd,I J o.fw,I J o.fk,I J o.fq,.slice o.fa o.fn o.fc] 68)).alloc (.cells #[I J 0,I J 0,I i32 0,I i32 0] 114)).alloc (.cells #[I J 0,I J 0,I J 0,I J 0,I J 0,I J 0,I J 0,I J 0] 37)).cell? ⟨A,0,K⟩=O (.pointer (O ⟨x,0,K⟩)):=by have t:=(D.block A a3).trans S;unfold zw at t;rw[zN t];rfl
 have a8:=ze S
 go_enter func56,ntmps56
 have Y0:=ze y0
 have Y2:=ze y2
 have a7:=ze D
 have YZ:=ze yz
 clear y0 y1 y2 D yz ab ad
 go_wp2_with fail
 generalize(((w.alloc (.cells #[I J 5,I J o.on,I J o.a,I J o.b,I J o.c,I i32 o.v,I J o.te,I J o.tn,I J o.fs,I J o.fe,I J o.fd,I J o.fw,I J o.fk,I J o.fq,.slice o.fa o.fn o.fc] 68)).alloc (.cells #[I J 0,I J 0,I i32 0,I i32 0] 114)).alloc (.cells #[I J 0,I J 0,I J 0,I J 0,I J 0,I J 0,I J 0,I J 0] 37))=X at*
 refine(ud ac).mono ?_
 rintro e V ⟨rfl,C⟩
 have aK:X.1.size=w.1.size+3:=ud YZ
 have z:=(C.block (w.1.size+2) (by omega)).trans (ud Y2)
 have a1:=(C.block w.1.size (by omega)).trans (ud Y0)
 obtain⟨z0,z1,z2,z3,z4,z5,z6,z7,-⟩:=zc z
 have zf:=fun j=>zD z j
 obtain⟨v0,-⟩:=zc a1
 have ap:=zih z (I J now) (I J U) (I J T) (I J ep) (I J A1) (I J A2) (I J A3) (I J A4)
 have aq:=(ud a7).trans (C.mono (ud a7).size)
 have W:zk (fun k=>k=w.1.size+2) V ((((((((V.setCell ⟨w.1.size+2,0,K⟩ (I J now)).setCell ⟨w.1.size+2,1,K⟩ (I J U)).setCell ⟨w.1.size+2,2,K⟩ (I J T)).setCell ⟨w.1.size+2,3,K⟩ (I J ep)).setCell ⟨w.1.size+2,4,K⟩ (I J A1)).setCell ⟨w.1.size+2,5,K⟩ (I J A2)).setCell ⟨w.1.size+2,6,K⟩ (I J A3)).setCell ⟨w.1.size+2,7,K⟩ (I J A4)):=zn (i:=7) (zn (i:=6) (zn (i:=5) (zn (i:=4) (zn (i:=3) (zn (i:=2) (zn (i:=1) (zn (i:=0) (zk.refl _ _) rfl) rfl) rfl) rfl) rfl) rfl) rfl) rfl
 have aJ:w.1.size+2<V.1.size:=zd z
 have aC:w.1.size<V.1.size:=by omega
 have aa:=ze (W.heap a1 (by omega))
 have y:E w.1.size w ((((((((V.setCell ⟨w.1.size+2,0,K⟩ (I J now)).setCell ⟨w.1.size+2,1,K⟩ (I J U)).setCell ⟨w.1.size+2,2,K⟩ (I J T)).setCell ⟨w.1.size+2,3,K⟩ (I J ep)).setCell ⟨w.1.size+2,4,K⟩ (I J A1)).setCell ⟨w.1.size+2,5,K⟩ (I J A2)).setCell ⟨w.1.size+2,6,K⟩ (I J A3)).setCell ⟨w.1.size+2,7,K⟩ (I J A4)):=aq.trans (W.below (Nat.le_of_lt aC) (fun k hk=>by omega))
 have aj:=ze (YG (w:=((((((((V.setCell ⟨w.1.size+2,0,K⟩ (I J now)).setCell ⟨w.1.size+2,1,K⟩ (I J U)).setCell ⟨w.1.size+2,2,K⟩ (I J T)).setCell ⟨w.1.size+2,3,K⟩ (I J ep)).setCell ⟨w.1.size+2,4,K⟩ (I J A1)).setCell ⟨w.1.size+2,5,K⟩ (I J A2)).setCell ⟨w.1.size+2,6,K⟩ (I J A3)).setCell ⟨w.1.size+2,7,K⟩ (I J A4))) (by rw[<-an];exact(y.block A a3).trans (ud a8)) ((y.cell (p:=⟨mb,0,K⟩) L).trans (ud av)) (Nat.lt_of_lt_of_le L y.size))
 have ai:=ze ap
 have ak:=ze y
 have aF:¬w.1.size=w.1.size+2:=by omega
 clear C z a1 ap W y aq ac p0
 go_wp2_with fail
 generalize((((((((V.setCell ⟨w.1.size+2,0,K⟩ (I J now)).setCell ⟨w.1.size+2,1,K⟩ (I J U)).setCell ⟨w.1.size+2,2,K⟩ (I J T)).setCell ⟨w.1.size+2,3,K⟩ (I J ep)).setCell ⟨w.1.size+2,4,K⟩ (I J A1)).setCell ⟨w.1.size+2,5,K⟩ (I J A2)).setCell ⟨w.1.size+2,6,K⟩ (I J A3)).setCell ⟨w.1.size+2,7,K⟩ (I J A4))=X8 at*
 refine(ud aj).mono ?_
 rintro e W1 ⟨g1,aD,rfl,f,B⟩
 have a0:=(B.block w.1.size (zd (ud aa))).trans (ud aa)
 have a5:=(ud ak).trans (B.mono (ud ak).size)
 obtain⟨q0,-⟩:=zc a0
 have g0:W1.cell? ⟨g1,0,K⟩=O (.pointer (O ⟨r,0,K⟩)):=by rw[f.cellAt 0 (by omega)];rfl
 have ae:=ag W1 a5
 have ah:=ze ((B.block (w.1.size+2) (zd (ud ai))).trans (ud ai))
 have a9:=ze a0
 have N:=ze a5
 have af:=ze f
 clear a0 a5 f B z0 z1 z2 z3 z4 z5 z6 z7 zf v0 aj ag
 go_wp2_with fail
 refine wp_loop_rounds 2 ?_
 rw[rounds_succ]
 go_wp2_with fail
 refine(ud ae).mono ?_
 rintro e U1 ⟨rfl,q⟩
 have a4:=(q.block (w.1.size+2) (zd (ud ah))).trans (ud ah)
 obtain⟨s0,s1,s2,s3,s4,s5,s6,s7,-⟩:=zc a4
 have am:g1<W1.1.size:=vw (ud af) g1 rfl
 have g2:U1.cell? ⟨g1,0,K⟩=O (.pointer (O ⟨r,0,K⟩)):=(q.cell (p:=⟨g1,0,K⟩) am).trans g0
 have aM:=zd a4
 have aL:g1<U1.1.size:=Nat.lt_of_lt_of_le am q.size
 have az:0<1:=by decide
 have aA:0+1<=maxLen:=by simp[maxLen]
 have aB:(0+1)*8<=140737488355328:=by omega
 have M:=ze q
 clear a4 q ae
 go_wp2_with(first|(at_builtin;refine zP rfl _ _ 104 rfl 0 108 _ 1 8 underlying104 Tryz.infoRefP rfl (by decide) (.slice K 0 0) 0 [] rfl (World.ownsRow_nil _ _ _ _) ⟨U1.1.size+1,0,K⟩ 1 1 [.pointer (O ⟨r,0,K⟩)] rfl rfl (World.news_of_block (cs:=#[.pointer (O ⟨r,0,K⟩)]) (Zz U1 _ _)) (by intro u hu;simp at hu;subst hu;rfl) az aA aB (Nat.zero_le _) ?_;intro g al P s a2 l F aE;have aw:=ze s;have au:=ze l;have ar:=ze F;clear s a2 l F)|go_in)
 have R:E U1.1.size U1 ((U1.alloc (.cells #[I J now,I J U,I J T,I J ep,I J A1,I J A2,I J A3,I J A4] 37)).alloc (.cells #[.pointer (O ⟨r,0,K⟩)] 108)):=(box2 U1 _ _).2.2.1
 have G:E U1.1.size U1 P:=R.grown (show((U1.alloc (.cells #[I J now,I J U,I J T,I J ep,I J A1,I J A2,I J A3,I J A4] 37)).alloc (.cells #[.pointer (O ⟨r,0,K⟩)] 108)).grownBy P K from ud au) R.size (fun k e=>by cases e)
 have n:E W1.1.size W1 P:=(ud M).trans (G.mono (ud M).size)
 have a6:E w.1.size w P:=(ud N).trans (n.mono (ud N).size)
 have m:=(a6.block A a3).trans (ud a8)
 have ao:=(n.block w.1.size (zd (ud a9))).trans (ud a9)
 have k9:P.cell? ⟨A,9,K⟩=O mv:=by have t:=m;unfold zw at t;rw[zN t];rfl
 have aN:P.cell? ⟨A,13,K⟩=O (.bool false):=by have t:=m;unfold zw at t;rw[zN t];rfl
 have aO:∀j,P.frozen? ⟨A,j,K⟩=false:=fun j=>by have t:=m;unfold zw at t;exact zD t j
 obtain⟨k0,-⟩:=zc ao
 have aG:=zd m
 have aI:=ze m
 have ax:=ze a6
 clear R G n a6 m ao s0 s1 s2 s3 s4 s5 s6 s7 g0 g2 q0
 rw[rounds_succ]
 go_wp2_with fail
 go_ret
 have ay:w.1.size<=g:=by
  rcases ud ar with h|h
  ·cases h
  ·rw[h]
   have z1:=(ud M).size;have z2:=(ud N).size;have z3:=(box2 U1 (.cells #[I J now,I J U,I J T,I J ep,I J A1,I J A2,I J A3,I J A4] 37) (.cells #[.pointer (O ⟨r,0,K⟩)] 108)).2.2.2;omega
 exact⟨rfl,_,g,al,rfl,ud ax,ud aw,ay⟩
end Go.Proofs.YtpbimdkclnekeaaGreat
