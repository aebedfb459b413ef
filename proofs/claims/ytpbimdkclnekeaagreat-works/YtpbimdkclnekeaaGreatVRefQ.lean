import Derived.Test.YtpbimdkclnekeaaGreatVMlz1
open Go.Value renaming int → I
open Go.IntKind renaming i64 → J
open Option renaming some → K
open Nat renaming le_trans → O
open Option renaming none → E
open Nat renaming le_refl → Q
open Nat renaming lt_of_lt_of_le → U
open Go.RowKit.Below renaming refl → Y
set_option linter.unusedVariables false
set_option maxRecDepth 20000
set_option maxHeartbeats 4000000
open Go.Proofs.Tryz
namespace Go.Proofs.YtpbimdkclnekeaaGreat
open Go.ChangeMaps (setBlock)
open Go.RowKit Go.Maps Go.Shelf
def RM.done(m:RM)(kind:Int)(s:Sg):RM:=if kind=1 then{m with pub:=m.pub++[s]}.settled else{m with gone:=m.gone++[s]}.settled
def RM.commit(m:RM)(ep num:Int):RM×Int:=match m.tg.findIdx? (Tk.holds ep num)with
 |some i=>(m.done ((m.tg[i]?).getD ⟨0,⟨0,0,0⟩,0,0,0,0,0,0,0⟩).kind ((m.tg[i]?).getD ⟨0,⟨0,0,0⟩,0,0,0,0,0,0,0⟩).s,0)
 |none=>(m,8)
theorem zfM{w:World}{B size n:Nat}{e:TypeId}{v:Value}{xs:List Value}(h:w.ownsRow B e size v n xs):∀k,v.ownBlock=K k->k<w.1.size:=fun k c=>by
 obtain⟨a,b⟩:=zO h c
 exact zd b
theorem zbg{B:Nat}{w:World}{p:Nat}{m:RM}{tv nv pv gv kv:Value}(h:zJ B w p m tv nv pv gv kv)(X:∀k,pv.ownBlock=K k->¬gv.ownBlock=K k)(hB:B<=w.1.size)(hc:m.c.ok)(a1:m.nu.length<=1000000000)(a0:m.gone.length<=1000000000)(a4:m.pub.length<=1000000000)(M:m.tg.length<=1000000000)(a2:∀x∈m.nu,x.ok)(y:0<=m.now/\m.now<=100000)(n:∀x∈m.tg,x.kind=1\/x.kind=2)(ep num:Int):
  Calls prog 155 #[.pointer (K ⟨p,0,E⟩),.agg #[I J ep,I J num]] w fun e w'=>e=.returned (I J (m.commit ep num).2)/\∃P D t,zJ B w' p (m.commit ep num).1 tv nv P D t/\(∀k,P.ownBlock=K k->¬D.ownBlock=K k)/\zk (fun k=>k=p\/pv.ownBlock=K k\/gv.ownBlock=K k) w w'/\(∀k,P.ownBlock=K k->pv.ownBlock=K k\/w.1.size<=k)/\(∀k,D.ownBlock=K k->gv.ownBlock=K k\/w.1.size<=k)/\∀k,t.ownBlock=K k->kv.ownBlock=K k\/w.1.size<=k:=by
 have G:Below w.1.size w (w.alloc (.cells #[I J ep,I J num] 49)):=(Y _ _).alloc (Q _) _
 have q0:=zo w (.cells #[I J ep,I J num] 49)
 obtain⟨c0,c1,-⟩:=zc q0
 have cl:=zd q0
 have C:=ze (Yu (h.later G) M ep num)
 have r:=ze G
 have u:=ze X
 have a3:=zfM h.prow
 have Z:=zfM h.grow
 clear q0 G X
 rcases Xg m.tg ep num with⟨T,F⟩|⟨i,x,N,T,F,h3⟩
 ·have A:Hid (m.commit ep num=(m,8)):=by show m.commit ep num=(m,8);unfold RM.commit;rw[T]
  rw[F]at C
  rw[ud A]
  have H:=ze h
  clear h T F a3 Z
  go_enter func155,ntmps155
  go_wp2_with fail
  refine(ud C).mono ?_
  rintro e w1 ⟨rfl,l⟩
  have j:=ze ((ud r).trans (l.mono (ud r).size))
  go_wp2_with fail
  go_ret
  exact⟨rfl,pv,gv,kv,(ud H).later (ud j),ud u,zk.of_below (ud j),fun k a=> .inl a,fun k a=> .inl a,fun k a=> .inl a⟩
 ·rw[h3]at C
  obtain⟨g,cap,hv,_,f,R,y1,y2,y3,-⟩:=Zd h.krow N
  subst hv
  have H:=ze h
  have a6:i<m.tg.length:=(List.getElem?_eq_some_iff.1 N).1
  have a5:(i:Int)<m.tg.length:=by omega
  obtain⟨-,-,-,-,v,-,-⟩:=h.rest
  have q:=h.lt
  clear h h3
  rcases n x (List.mem_of_getElem? N)with n|n
  ·have A:Hid (m.commit ep num=({m with pub:=m.pub++[x.s]}.settled,0)):=by show m.commit ep num=_;unfold RM.commit RM.done;rw[F];simp only[N,Option.getD_some];rw[n];rfl
   rw[ud A]
   rw[n]at R
   clear T F N A
   go_enter func155,ntmps155
   go_wp2_with fail
   refine(ud C).mono ?_
   rintro e w1 ⟨rfl,l⟩
   have d:=(ud r).trans (l.mono (ud r).size)
   have S:=ze (zgd ((ud H).later d.drew) (ud u) (O hB d.size) hc a1 a0 a4 M a2 y x.s)
   have z11:=(d.cell (p:=⟨p,11,E⟩) q).trans v
   have z0:=(d.cell (p:=⟨g,i*11,E⟩) f).trans R
   have z1:=(d.cell (p:=⟨g,i*11+1,E⟩) f).trans y1
   have z2:=(d.cell (p:=⟨g,i*11+2,E⟩) f).trans y2
   have z3:=(d.cell (p:=⟨g,i*11+3,E⟩) f).trans y3
   have zp:=U q d.size
   have zg:=U f d.size
   have j:=ze d
   clear l d R y1 y2 y3 v C
   go_wp2_with fail
   refine xH 17 (by kernel_rfl) (by kernel_rfl) ?_
   simp only[List.take_succ_cons,List.take_zero,List.drop_succ_cons,List.drop_zero]
   repeat still_step
   refine wpStill_nil ?_
   go_wp2_with fail
   refine(ud S).mono ?_
   rintro e w2 ⟨rfl,z,t,W,V,hz,hk⟩
   have HR:=ze W
   have HK:=ze V
   clear W V S
   go_wp2_with fail
   go_ret
   have o:=(ud j).size
   have L:zk (fun k=>k=p\/pv.ownBlock=K k\/gv.ownBlock=K k) w w2:=(zk.of_below (ud j).drew).trans (g:=fun k=>k=p\/pv.ownBlock=K k) (ud HK) (fun k _ e=>Or.elim e .inl (fun e=> .inr (.inl e)))
   refine⟨rfl,z,gv,t,ud HR,fun k a b=>?_,L,fun k a=>(hz k a).imp id (fun e=>O o e),fun k a=> .inl a,fun k a=> .inr (O o (hk k a))⟩
   rcases hz k a with e|e
   ·exact ud u k e b
   ·have:=Z k b
    exact absurd (O o e) (by omega)
  ·have A:Hid (m.commit ep num=({m with gone:=m.gone++[x.s]}.settled,0)):=by show m.commit ep num=_;unfold RM.commit RM.done;rw[F];simp only[N,Option.getD_some];rw[n];rfl
   rw[ud A]
   rw[n]at R
   clear T F N A
   go_enter func155,ntmps155
   go_wp2_with fail
   refine(ud C).mono ?_
   rintro e w1 ⟨rfl,l⟩
   have d:=(ud r).trans (l.mono (ud r).size)
   have S:=ze (zdG ((ud H).later d.drew) (ud u) (O hB d.size) hc a1 a0 a4 M a2 y x.s)
   have z11:=(d.cell (p:=⟨p,11,E⟩) q).trans v
   have z0:=(d.cell (p:=⟨g,i*11,E⟩) f).trans R
   have z1:=(d.cell (p:=⟨g,i*11+1,E⟩) f).trans y1
   have z2:=(d.cell (p:=⟨g,i*11+2,E⟩) f).trans y2
   have z3:=(d.cell (p:=⟨g,i*11+3,E⟩) f).trans y3
   have zp:=U q d.size
   have zg:=U f d.size
   have j:=ze d
   clear l d R y1 y2 y3 v C
   go_wp2_with fail
   refine xH 17 (by kernel_rfl) (by kernel_rfl) ?_
   simp only[List.take_succ_cons,List.take_zero,List.drop_succ_cons,List.drop_zero]
   repeat still_step
   refine wpStill_nil ?_
   go_wp2_with fail
   refine(ud S).mono ?_
   rintro e w2 ⟨rfl,z,t,W,V,hz,hk⟩
   have HR:=ze W
   have HK:=ze V
   clear W V S
   go_wp2_with fail
   go_ret
   have o:=(ud j).size
   have L:zk (fun k=>k=p\/pv.ownBlock=K k\/gv.ownBlock=K k) w w2:=(zk.of_below (ud j).drew).trans (g:=fun k=>k=p\/gv.ownBlock=K k) (ud HK) (fun k _ e=>Or.elim e .inl (fun e=> .inr (.inr e)))
   refine⟨rfl,pv,z,t,ud HR,fun k a b=>?_,L,fun k a=> .inl a,fun k a=>(hz k a).imp id (fun e=>O o e),fun k a=> .inr (O o (hk k a))⟩
   rcases hz k b with e|e
   ·exact ud u k a e
   ·have:=a3 k a
    exact absurd (O o e) (by omega)
theorem QT{w:World}{i:Ids}{c:Cf}{ep:Int}{m:MS}(h:zy w i c ep m)(t:Tok)(G:t.wf)(q:zV m.QL t=E):
  Calls prog 18 #[.pointer (K ⟨i.x,0,E⟩),.agg #[I J t.ep,I J t.num]] w fun e w'=>e=.returned (I J 8)/\Below w.1.size w w':=by
 have a:Below w.1.size w (w.alloc (.cells #[I J t.ep,I J t.num] 49)):=(Y _ _).alloc (Q _) _
 have y:=zo w (.cells #[I J t.ep,I J t.num] 49)
 have B:=zF w (.cells #[I J t.ep,I J t.num] 49)
 have n:=h.later a
 obtain⟨-,-,-,-,-,-,-,-,P,-,C⟩:=n.cells
 have H:=n.lt
 have F:=zd y
 obtain⟨R,S,-⟩:=zc y
 have j:(⟨(qV (zV m.QL t)).kd,(qV (zV m.QL t)).s⟩:Jk).wf:=by rw[q];refine⟨?_,?_,?_,?_⟩<;>(unfold yS qV;simp)
 have k:=fun W D=>ze (kX ((h.later (w':=W) D).board) t G j)
 simp only[q,Option.isSome_none]at k
 generalize zkL (zV m.TL ⟨(qV E).kd,(qV E).s⟩)=M at k
 have d:=ze a
 have z:=ze B
 clear h n a y B j q
 go_enter func18,ntmps18
 go_wp2_with fail
 have T:w.1.size<w.1.size+1:=by omega
 have V:i.x<w.1.size+1:=by have:=ud z;omega
 generalize(w.alloc (.cells #[I J t.ep,I J t.num] 49))=X at*
 generalize A:w.1.size+1=N at*
 have v:Nonempty (zm N X):=zm.some _ _
 have r:=fun(u:zm N X) b o h=>u.cell b o h
 have g:N<=X.1.size:=by rw[ud z];exact Q _
 have l:=ze g
 have f:Hid (w.1.size<=N):=by show w.1.size<=N;omega
 have L:=ze A
 clear g A
 refine zh N (by kernel_rfl) (by kernel_rfl) ?_
 repeat(go_big_quiet_step (first
  |(go_at_call 41;exact Calls.later (ud l) (ud (k _ ((ud d).trans (Below.mono (Subtype.property _) (ud f))))))))
 refine wpQuiet_nil ?_
 rintro⟨Z,p⟩
 clear r v
 dsimp only
 go_wp2_with fail
 go_ret
 exact⟨rfl,(ud d).trans (p.mono (ud f))⟩
theorem zaN{w:World}{i:Ids}{c:Cf}{ep:Int}{m:MS}(h:zy w i c ep m)(t:Tok)(G:t.wf)(q:zV m.QL t=E):
  Calls prog 19 #[.pointer (K ⟨i.x,0,E⟩),.agg #[I J t.ep,I J t.num]] w fun e w'=>e=.returned (I J 8)/\Below w.1.size w w':=by
 have a:Below w.1.size w (w.alloc (.cells #[I J t.ep,I J t.num] 49)):=(Y _ _).alloc (Q _) _
 have y:=zo w (.cells #[I J t.ep,I J t.num] 49)
 have B:=zF w (.cells #[I J t.ep,I J t.num] 49)
 have n:=h.later a
 obtain⟨-,-,-,-,-,-,-,-,P,-,C⟩:=n.cells
 have H:=n.lt
 have F:=zd y
 obtain⟨R,S,-⟩:=zc y
 have j:(⟨(qV (zV m.QL t)).kd,(qV (zV m.QL t)).s⟩:Jk).wf:=by rw[q];refine⟨?_,?_,?_,?_⟩<;>(unfold yS qV;simp)
 have k:=fun W D=>ze (kX ((h.later (w':=W) D).board) t G j)
 simp only[q,Option.isSome_none]at k
 generalize zkL (zV m.TL ⟨(qV E).kd,(qV E).s⟩)=M at k
 have d:=ze a
 have z:=ze B
 clear h n a y B j q
 go_enter func19,ntmps19
 go_wp2_with fail
 have T:w.1.size<w.1.size+1:=by omega
 have V:i.x<w.1.size+1:=by have:=ud z;omega
 generalize(w.alloc (.cells #[I J t.ep,I J t.num] 49))=X at*
 generalize A:w.1.size+1=N at*
 have v:Nonempty (zm N X):=zm.some _ _
 have r:=fun(u:zm N X) b o h=>u.cell b o h
 have g:N<=X.1.size:=by rw[ud z];exact Q _
 have l:=ze g
 have f:Hid (w.1.size<=N):=by show w.1.size<=N;omega
 have L:=ze A
 clear g A
 refine zh N (by kernel_rfl) (by kernel_rfl) ?_
 repeat(go_big_quiet_step (first
  |(go_at_call 41;exact Calls.later (ud l) (ud (k _ ((ud d).trans (Below.mono (Subtype.property _) (ud f))))))))
 refine wpQuiet_nil ?_
 rintro⟨Z,p⟩
 clear r v
 dsimp only
 go_wp2_with fail
 go_ret
 exact⟨rfl,(ud d).trans (p.mono (ud f))⟩
theorem zhw{w:World}{i:Ids}{c:Cf}{ep:Int}{m:MS}(h:zy w i c ep m)(t:Tok)(ht:t.wf){g:Lse}(M:zV m.QL t=K g)(hj:g.job.wf){x:Tsk}(hx:zV m.TL g.job=K x)(D:0<=m.now/\m.now<=100000)(a5:0<=x.tc/\x.tc<=1000000)(ab:m.TL.length<=50000):
  Calls prog 19 #[.pointer (K ⟨i.x,0,E⟩),.agg #[I J t.ep,I J t.num]] w fun e w'=>e=.returned (I J 0)/\zy w' i c ep {m with TL:=qt m.TL g.job (x.failed m.now),QL:=xt m.QL t}/\zk (zU i) w w':=by
 have n:Below w.1.size w (w.alloc (.cells #[I J t.ep,I J t.num] 49)):=(Y _ _).alloc (Q _) _
 have P:=zo w (.cells #[I J t.ep,I J t.num] 49)
 have qz:=zF w (.cells #[I J t.ep,I J t.num] 49)
 have hX:=h.later n
 obtain⟨-,-,-,-,-,-,-,-,c8,-,a1⟩:=hX.cells
 have ac:=hX.lt
 have aa:=zd P
 obtain⟨k0,k1,-⟩:=zc P
 have C:(⟨(qV (zV m.QL t)).kd,(qV (zV m.QL t)).s⟩:Jk).wf:=by rw[M];exact hj
 have L:=fun W hW=>ze (kX ((h.later (w':=W) hW).board) t ht C)
 generalize zkL (zV m.TL ⟨(qV (zV m.QL t)).kd,(qV (zV m.QL t)).s⟩)=JV at L
 simp only[M,Option.isSome_some]at L
 obtain⟨es,a8,F,G⟩:=h.board.leases
 have r:=ze n
 have QZ:=ze qz
 have H:=ze h
 have Q0:=ze P
 have HG:=ze M
 have a0:=ze hx
 have j:=ze (And.intro F G)
 clear h hX n P qz C M hx F G
 go_enter func19,ntmps19
 go_wp2_with fail
 have p1:w.1.size<w.1.size+1:=by omega
 have p2:i.x<w.1.size+1:=by have:=ud QZ;omega
 generalize(w.alloc (.cells #[I J t.ep,I J t.num] 49))=X at*
 generalize hN:w.1.size+1=N at*
 have a4:Nonempty (zm N X):=zm.some _ _
 have a3:=fun(u:zm N X) b o h=>u.cell b o h
 have A:N<=X.1.size:=by rw[ud QZ];exact Q _
 have V:=ze A
 have v:Hid (w.1.size<=N):=by show w.1.size<=N;omega
 have HN:=ze hN
 clear A hN
 refine zh N (by kernel_rfl) (by kernel_rfl) ?_
 repeat(go_big_quiet_step (first
  |(go_at_call 41;exact Calls.later (ud V) (ud (L _ ((ud r).trans (Below.mono (Subtype.property _) (ud v))))))))
 refine wpQuiet_nil ?_
 rintro⟨w1,l⟩
 clear a3 a4
 dsimp only
 have d:=(ud r).trans (l.mono (ud v))
 have a:=ze ((ud H).later d)
 have R:=ze d
 have p:=(l.block _ (show w.1.size<N by have:=ud HN;omega)).trans (ud Q0)
 obtain⟨-,-,-,-,-,-,-,-,e8,-,a9⟩:=(ud a).cells
 obtain⟨t0,t1,-⟩:=zc p
 have a6:=zd p
 have a7:=(ud a).lt
 have S:=ze (zbL (((ud a).later (Y _ _).drew).board) t ht (ud HG) hj (ud a0) m.now D ⟨a5.1,by omega⟩ (by omega) ((d.block _ (zd (ud j).1)).trans (ud j).1) (ud j).2)
 clear k0 k1 c8 a1 l d p L
 go_wp2_with fail
 refine xH 9 (by kernel_rfl) (by kernel_rfl) ?_
 simp only[List.take_succ_cons,List.take_zero,List.drop_succ_cons,List.drop_zero]
 repeat still_step
 refine wpStill_nil ?_
 go_wp2_with(first|(go_at_call 45;refine(ud S).mono ?_;rintro e V2 ⟨rfl,y,z,-⟩;have Z:=ze y;have T:=ze z;clear y z))
 go_ret
 have B:zk (ZU i.b i.tb i.qb) w1 V2:=((zk.refl (ZU i.b i.tb i.qb) w1).drew).trans ((ud T).mono (fun k _ e=> .inr e)) (fun _ _ e=>e)
 have a2:=(ud a).putBoard (ud Z) B
 exact⟨rfl,a2,(zk.of_below (f:=zU i) (ud R)).trans (B.mono (fun q _ e=> .inr (.inr e))) (fun _ _ e=>e)⟩
end Go.Proofs.YtpbimdkclnekeaaGreat
