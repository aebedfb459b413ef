import Derived.Test.YtndhpgciopcncaaGreatDoorUJbn0
import Derived.Test.YtndhpgciopcncaaGreatDoorUAdd3
open Go.Value renaming int → I
open Go.IntKind renaming i64 → J
open Option renaming none → K
open Nat renaming le_refl → O
open Option renaming some → E
open Go.RowKit.Below renaming refl → Q
open Go.RowKit renaming Below → Y
open Nat renaming lt_of_lt_of_le → Z
open Go.IntKind (i32)
set_option linter.unusedVariables false
set_option maxRecDepth 20000
set_option maxHeartbeats 4000000
open Go.Proofs.Tryz
namespace Go.Proofs.YtndhpgciopcncaaGreatDoor
open Go.ChangeMaps (setBlock)
open Go.RowKit Go.Maps Go.Shelf
def xT(now:Int)(xs:List SX):ByteArray:=⟨(VG now xs).toArray⟩
theorem Zb(now:Int)(xs:List SX):(xT now xs).size=(VG now xs).length:=by simp[xT,ByteArray.size]
theorem jC{w w':World}(h:ZR w)(a:Y w.1.size w w'):ZR w':=Vw h a
theorem zN.cells{w:World}{i:Ids}{c:Cf}{ep:Int}{m:MS}{q:JM}(h:zN w i c ep m q):w.cell? ⟨i.x,8,K⟩=E (I J m.now)/\w.cell? ⟨i.x,9,K⟩=E (.pointer (E ⟨i.s,0,K⟩))/\w.cell? ⟨i.x,10,K⟩=E (.pointer (E ⟨i.b,0,K⟩))/\w.cell? ⟨i.x,11,K⟩=E (.pointer (E ⟨i.j,0,K⟩))/\w.cell? ⟨i.x,12,K⟩=E (.bool q.dn):=by
 refine⟨?_,?_,?_,?_,?_⟩<;>rw[xD h.head]<;>rfl
theorem QJ{w:World}{i:Ids}{c:Cf}{ep:Int}{m:MS}{q:JM}(h:zN w i c ep m q)(o:xh m.now)(z:∀x∈Zk m.L m.Gl,okX x)(a3:m.L.length<=1000000)(a8:m.Gl.length<=50000000)(N:Nat)(hN:N<=1000000000000)(hd:DOk q.S N):
  Calls prog 73 #[.pointer (E ⟨i.x,0,K⟩)] w fun e w'=>∃a:List SX,a.Perm (Zk m.L m.Gl)/\e=.returned (.bool (Qp q.S (xT m.now a)))/\zN w' i c ep m {q with st:=JY q.S (xT m.now a) q.st,S:=zbn q.S (xT m.now a)}/\Kx i w w':=by
 obtain⟨x8,x9,-,a7,-⟩:=h.cells
 have P:=h.lt
 have R:=fun W (A:Y w.1.size w W)=>zd (zgz (h.later A).set a3 (by omega))
 have X:=R w (Q _ _)
 have a0:=R w.drew (Q _ _).drew
 have u:=fun(a:List SX) (v:Value) W (k:a.Perm (Zk m.L m.Gl)) (A:Y w.1.size w W) (hr:SRd W v a)=>zd (VD m.now o a (fun x hx=>z x (k.mem_iff.1 hx)) (by rw[k.length_eq];unfold Zk;rw[List.length_append,List.length_map];omega) v W hr (jC h.tab A))
 have t:=fun(a:List SX) W (k:a.Perm (Zk m.L m.Gl)) (A:Y w.1.size w W)=>(by
  obtain⟨fs,hj⟩:=(h.later A).jrn
  have a9:(xT m.now a).size<=20000000000:=by
   rw[Zb]
   have h1:=Zc o (fun x hx=>z x (k.mem_iff.1 hx))
   have h2:=k.length_eq
   unfold Zk at h2
   rw[List.length_append,List.length_map]at h2
   omega
  exact(zdu hj (xT m.now a) N (by omega) hd).mono fun e w' ⟨he,hE⟩=>(⟨he,(h.later A).putJrn hj hE⟩:e=.returned (.bool (Qp q.S (xT m.now a)))/\zN w' i c ep m {q with st:=JY q.S (xT m.now a) q.st,S:=zbn q.S (xT m.now a)}/\Kx i W w'):Calls prog 133 #[.pointer (E ⟨i.j,0,K⟩),.string (xT m.now a)] W fun e w'=>e=.returned (.bool (Qp q.S (xT m.now a)))/\zN w' i c ep m {q with st:=JY q.S (xT m.now a) q.st,S:=zbn q.S (xT m.now a)}/\Kx i W w')
 have C:=zd h.dlt
 clear h R hd z
 go_enter func73,ntmps73
 go_wp2_with fail
 go_region_held3 (fun w'=>w'.cell? ⟨i.x,8,K⟩=E (I J m.now)/\w'.cell? ⟨i.x,9,K⟩=E (.pointer (E ⟨i.s,0,K⟩))/\w'.cell? ⟨i.x,11,K⟩=E (.pointer (E ⟨i.j,0,K⟩))) (go_keep) (first
  |(go_at_call 134;(first|(with_reducible refine(ud X).mono ?_)|(with_reducible refine(ud a0).mono ?_));rintro e V ⟨a,v,k,rfl,l,d⟩;have f:Y w.1.size w V:=⟨d.os,d.tape,d.output,d.size,d.block⟩;have v8:=(f.cell (p:=⟨i.x,8,K⟩) P).trans x8;have v9:=(f.cell (p:=⟨i.x,9,K⟩) P).trans x9;have a6:=(f.cell (p:=⟨i.x,11,K⟩) P).trans a7;have M:=Z P f.size;have a1:=u a v V k f l;have a2:=u a v V.drew k f.drew (l.later (Q _ _).drew);have B:=zd f;have r:=zd k;obtain⟨va,vc,a4⟩:=l.slice;subst a4;clear f d l k u)
  |(go_at_call 108;(first|(with_reducible refine(ud a1).mono ?_)|(with_reducible refine(ud a2).mono ?_));rintro e U ⟨rfl,b⟩;have g:Y V.1.size V U:=⟨b.os,b.tape,b.output,b.size,b.block⟩;have u8:=(g.cell (p:=⟨i.x,8,K⟩) M).trans v8;have u9:=(g.cell (p:=⟨i.x,9,K⟩) M).trans v9;have aa:=(g.cell (p:=⟨i.x,11,K⟩) M).trans a6;have n:Y w.1.size w U:=(ud B).trans (g.mono (ud B).size);have lU:=Z M g.size;have D:=zd (t a U (ud r) n);have F:=zd (t a U.drew (ud r) n.drew);unfold xT at D F;have G:=zd n;clear g b n t)
  |(go_at_call 133;(with_reducible refine(ud D).mono ?_);rintro e T ⟨rfl,y,H⟩;obtain⟨t8,t9,-,a5,-⟩:=y.cells;have HM:=zd y;have HK:=zd ((Kx.below (ud G) (ud C)).trans H);clear y H)
  |(go_at_call 133;(with_reducible refine(ud F).mono ?_);rintro e T ⟨rfl,y,H⟩;obtain⟨t8,t9,-,a5,-⟩:=y.cells;have HM:=zd y;have HK:=zd ((Kx.below (ud G).drew (ud C)).trans H);clear y H))
 all_goals go_wp2_with fail
 all_goals go_ret
 all_goals exact⟨a,ud r,rfl,ud HM,ud HK⟩
theorem zas{dn:Bool}{w:World}{i:Ids}{c:Cf}{ep:Int}{m:MS}(h:xz dn w i c ep m)(t:Tok)(G:t.wf)(q:zQ m.QL t=K):
  Calls prog 20 #[.pointer (E ⟨i.x,0,K⟩),.agg #[I J t.ep,I J t.num]] w fun e w'=>e=.returned (I J 8)/\Y w.1.size w w':=by
 have a:Y w.1.size w (w.alloc (.cells #[I J t.ep,I J t.num] 49)):=(Q _ _).alloc (O _) _
 have y:=zm w (.cells #[I J t.ep,I J t.num] 49)
 have B:=zL w (.cells #[I J t.ep,I J t.num] 49)
 have n:=h.later a
 obtain⟨-,-,-,-,-,-,-,-,P,-,C⟩:=n.cells
 have H:=n.lt
 have F:=za y
 obtain⟨R,S,-⟩:=zc y
 have j:(⟨(qY (zQ m.QL t)).kd,(qY (zQ m.QL t)).s⟩:Jk).wf:=by rw[q];refine⟨?_,?_,?_,?_⟩<;>(unfold xh qY;simp)
 have k:=fun W D=>zd (vj ((h.later (w':=W) D).board) t G j)
 simp only[q,Option.isSome_none]at k
 generalize zgm (zQ m.TL ⟨(qY K).kd,(qY K).s⟩)=M at k
 have d:=zd a
 have z:=zd B
 clear h n a y B j q
 go_enter func20,ntmps20
 go_wp2_with fail
 have T:w.1.size<w.1.size+1:=by omega
 have U:i.x<w.1.size+1:=by have:=ud z;omega
 generalize(w.alloc (.cells #[I J t.ep,I J t.num] 49))=X at*
 generalize A:w.1.size+1=N at*
 have v:Nonempty (zU N X):=zU.some _ _
 have r:=fun(u:zU N X) b o h=>u.cell b o h
 have g:N<=X.1.size:=by rw[ud z];exact O _
 have l:=zd g
 have f:Hid (w.1.size<=N):=by show w.1.size<=N;omega
 have L:=zd A
 clear g A
 refine zv N (by kernel_rfl) (by kernel_rfl) ?_
 repeat(go_big_quiet_step (first
  |(go_at_call 51;exact Calls.later (ud l) (ud (k _ ((ud d).trans (Below.mono (Subtype.property _) (ud f))))))))
 refine wpQuiet_nil ?_
 rintro⟨V,p⟩
 clear r v
 dsimp only
 go_wp2_with fail
 go_ret
 exact⟨rfl,(ud d).trans (p.mono (ud f))⟩
theorem zeP{dn:Bool}{w:World}{i:Ids}{c:Cf}{ep:Int}{m:MS}(h:xz dn w i c ep m)(t:Tok)(G:t.wf)(q:zQ m.QL t=K):
  Calls prog 21 #[.pointer (E ⟨i.x,0,K⟩),.agg #[I J t.ep,I J t.num]] w fun e w'=>e=.returned (I J 8)/\Y w.1.size w w':=by
 have a:Y w.1.size w (w.alloc (.cells #[I J t.ep,I J t.num] 49)):=(Q _ _).alloc (O _) _
 have y:=zm w (.cells #[I J t.ep,I J t.num] 49)
 have B:=zL w (.cells #[I J t.ep,I J t.num] 49)
 have n:=h.later a
 obtain⟨-,-,-,-,-,-,-,-,P,-,C⟩:=n.cells
 have H:=n.lt
 have F:=za y
 obtain⟨R,S,-⟩:=zc y
 have j:(⟨(qY (zQ m.QL t)).kd,(qY (zQ m.QL t)).s⟩:Jk).wf:=by rw[q];refine⟨?_,?_,?_,?_⟩<;>(unfold xh qY;simp)
 have k:=fun W D=>zd (vj ((h.later (w':=W) D).board) t G j)
 simp only[q,Option.isSome_none]at k
 generalize zgm (zQ m.TL ⟨(qY K).kd,(qY K).s⟩)=M at k
 have d:=zd a
 have z:=zd B
 clear h n a y B j q
 go_enter func21,ntmps21
 go_wp2_with fail
 have T:w.1.size<w.1.size+1:=by omega
 have U:i.x<w.1.size+1:=by have:=ud z;omega
 generalize(w.alloc (.cells #[I J t.ep,I J t.num] 49))=X at*
 generalize A:w.1.size+1=N at*
 have v:Nonempty (zU N X):=zU.some _ _
 have r:=fun(u:zU N X) b o h=>u.cell b o h
 have g:N<=X.1.size:=by rw[ud z];exact O _
 have l:=zd g
 have f:Hid (w.1.size<=N):=by show w.1.size<=N;omega
 have L:=zd A
 clear g A
 refine zv N (by kernel_rfl) (by kernel_rfl) ?_
 repeat(go_big_quiet_step (first
  |(go_at_call 51;exact Calls.later (ud l) (ud (k _ ((ud d).trans (Below.mono (Subtype.property _) (ud f))))))))
 refine wpQuiet_nil ?_
 rintro⟨V,p⟩
 clear r v
 dsimp only
 go_wp2_with fail
 go_ret
 exact⟨rfl,(ud d).trans (p.mono (ud f))⟩
theorem zcx{w:World}{i:Ids}{c:Cf}{ep:Int}{m:MS}(h:xz false w i c ep m)(t:Tok)(ht:t.wf){g:Lse}(M:zQ m.QL t=E g)(hj:g.job.wf){x:Tsk}(hx:zQ m.TL g.job=E x)(D:0<=m.now/\m.now<=100000)(a5:0<=x.ti/\x.ti<=1000000)(ac:m.TL.length<=50000):
  Calls prog 21 #[.pointer (E ⟨i.x,0,K⟩),.agg #[I J t.ep,I J t.num]] w fun e w'=>e=.returned (I J 0)/\xz false w' i c ep {m with TL:=qq m.TL g.job (x.failed m.now),QL:=xe m.QL t}/\zo (jm i) w w':=by
 have n:Y w.1.size w (w.alloc (.cells #[I J t.ep,I J t.num] 49)):=(Q _ _).alloc (O _) _
 have P:=zm w (.cells #[I J t.ep,I J t.num] 49)
 have qz:=zL w (.cells #[I J t.ep,I J t.num] 49)
 have hX:=h.later n
 obtain⟨-,-,-,-,-,-,-,-,c8,-,a1⟩:=hX.cells
 have ad:=hX.lt
 have ab:=za P
 obtain⟨k0,k1,-⟩:=zc P
 have C:(⟨(qY (zQ m.QL t)).kd,(qY (zQ m.QL t)).s⟩:Jk).wf:=by rw[M];exact hj
 have L:=fun W hW=>zd (vj ((h.later (w':=W) hW).board) t ht C)
 generalize zgm (zQ m.TL ⟨(qY (zQ m.QL t)).kd,(qY (zQ m.QL t)).s⟩)=JV at L
 simp only[M,Option.isSome_some]at L
 obtain⟨es,a8,F,G⟩:=h.board.leases
 have r:=zd n
 have QZ:=zd qz
 have H:=zd h
 have Q0:=zd P
 have HG:=zd M
 have a0:=zd hx
 have j:=zd (And.intro F G)
 clear h hX n P qz C M hx F G
 go_enter func21,ntmps21
 go_wp2_with fail
 have p1:w.1.size<w.1.size+1:=by omega
 have p2:i.x<w.1.size+1:=by have:=ud QZ;omega
 generalize(w.alloc (.cells #[I J t.ep,I J t.num] 49))=X at*
 generalize hN:w.1.size+1=N at*
 have a4:Nonempty (zU N X):=zU.some _ _
 have a3:=fun(u:zU N X) b o h=>u.cell b o h
 have A:N<=X.1.size:=by rw[ud QZ];exact O _
 have U:=zd A
 have v:Hid (w.1.size<=N):=by show w.1.size<=N;omega
 have HN:=zd hN
 clear A hN
 refine zv N (by kernel_rfl) (by kernel_rfl) ?_
 repeat(go_big_quiet_step (first
  |(go_at_call 51;exact Calls.later (ud U) (ud (L _ ((ud r).trans (Below.mono (Subtype.property _) (ud v))))))))
 refine wpQuiet_nil ?_
 rintro⟨w1,l⟩
 clear a3 a4
 dsimp only
 have d:=(ud r).trans (l.mono (ud v))
 have a:=zd ((ud H).later d)
 have R:=zd d
 have p:=(l.block _ (show w.1.size<N by have:=ud HN;omega)).trans (ud Q0)
 obtain⟨-,-,-,-,-,-,-,-,e8,-,a9⟩:=(ud a).cells
 obtain⟨-,aa⟩:=(ud a).cells2
 obtain⟨t0,t1,-⟩:=zc p
 have a6:=za p
 have a7:=(ud a).lt
 have S:=zd (JG (((ud a).later (Q _ _).drew).board) t ht (ud HG) hj (ud a0) m.now D ⟨a5.1,by omega⟩ (by omega) ((d.block _ (za (ud j).1)).trans (ud j).1) (ud j).2)
 clear k0 k1 c8 a1 l d p L
 go_wp2_with fail
 refine xo 9 (by kernel_rfl) (by kernel_rfl) ?_
 simp only[List.take_succ_cons,List.take_zero,List.drop_succ_cons,List.drop_zero]
 repeat still_step
 refine wpStill_nil ?_
 go_wp2_with(first|(go_at_call 56;refine(ud S).mono ?_;rintro e V2 ⟨rfl,y,z,-⟩;have V:=zd y;have T:=zd z;clear y z))
 go_ret
 have B:zo (vv i.b i.tb i.qb) w1 V2:=((zo.refl (vv i.b i.tb i.qb) w1).drew).trans ((ud T).mono (fun k _ e=> .inr e)) (fun _ _ e=>e)
 have a2:=(ud a).putBoard (ud V) B
 exact⟨rfl,a2,(zo.of_below (f:=jm i) (ud R)).trans (B.mono (fun q _ e=> .inr (.inr e))) (fun _ _ e=>e)⟩
theorem zaf(V:World)(base:Nat)(a:base<=V.1.size)(x:SX):vu (V.alloc (.cells #[I J x.1.t,I J x.1.sr,I J x.1.wa,I J x.2.st,I J x.2.cl.cnt,I J x.2.cl.sum,I i32 x.2.cl.mn,I i32 x.2.cl.mx] 148)) base (.slice (E ⟨V.1.size,0,K⟩) 1 1) [x]:=by
 unfold vu
 exact X9 (n:=1) (xs:=[x].flatMap xd) (zm _ _) (by simp[xd]) (by omega) (by simp[maxLen]) a
theorem zcs{dn:Bool}{w:World}{i:Ids}{c:Cf}{ep:Int}{m:MS}(h:xz dn w i c ep m)(M:c.ok)(s:Sg)(N:inR c s)(k:Nat)(A:s.t=k):
  Calls prog 53 #[.pointer (E ⟨i.x,0,K⟩),.iface 195 (.agg #[I J s.t,I J s.sr,I J s.wa])] w fun e w'=>∃v,e=.returned v/\vu w' w.1.size v [(s,⟨3,xi (zW c m.L s.sr s.wa k)⟩)]/\Y w.1.size w w':=by
 obtain⟨t,sr,wa⟩:=s
 dsimp only at A
 subst A
 obtain⟨⟨ha,H,hw⟩,U,h2,D,F⟩:=N
 dsimp only at*
 generalize l:xi (zW c m.L sr wa k)=B
 obtain⟨X,d⟩:∃X,w.alloc (.cells #[I J k,I J sr,I J wa] 195)=X:=⟨_,rfl⟩
 have j:Y w.1.size w X:=by rw[<-d];exact(Q _ _).alloc (O _) _
 have z:X.1[w.1.size]?=E (.cells #[I J k,I J sr,I J wa] 195 (0,0)):=by rw[<-d];exact zm _ _
 have o:=h.later j
 obtain⟨-,-,-,-,-,-,-,-,-,C,-⟩:=o.cells
 have n:=o.lt
 have f:=za z
 obtain⟨R,S,T,-⟩:=zc z
 have g:=fun W (G:Y X.1.size X W)=>zd (zbp (o.later G).set M k (by omega) sr wa H ⟨D,F⟩ B l)
 have q:=g X (Q _ _)
 have r:=g X.drew (Q _ _).drew
 have P:=fun W=>zjT (.agg #[I J k,I J sr,I J wa]) W
 have y:=zd d
 have b:=zd j
 clear h o d j z g l
 go_enter func53,ntmps53
 go_wp2_with fail
 rw[ud y]
 go_region_held3 (fun w'=>w'.cell? ⟨i.x,9,K⟩=E (.pointer (E ⟨i.s,0,K⟩))/\w'.cell? ⟨w.1.size,0,K⟩=E (I J k)/\w'.cell? ⟨w.1.size,1,K⟩=E (I J sr)/\w'.cell? ⟨w.1.size,2,K⟩=E (I J wa)) (go_keep) (first
  |(go_at_call 111;(first|(with_reducible refine(ud q).mono ?_)|(with_reducible refine(ud r).mono ?_));rintro e V ⟨rfl,a⟩;have hv:Y X.1.size X V:=⟨a.os,a.tape,a.output,a.size,a.block⟩;clear a;have v9:=(hv.cell (p:=⟨i.x,9,K⟩) n).trans C;have v0:=(hv.cell (p:=⟨w.1.size,0,K⟩) f).trans R;have v1:=(hv.cell (p:=⟨w.1.size,1,K⟩) f).trans S;have v2:=(hv.cell (p:=⟨w.1.size,2,K⟩) f).trans T;have lx:=Z n hv.size;have lq:=Z f hv.size;have u:=zd hv;clear hv))
 all_goals go_wp2_with fail
 all_goals go_ret
 all_goals exact⟨_,rfl,zaf V w.1.size (Nat.le_trans (ud b).size (ud u).size) (⟨k,sr,wa⟩,⟨3,B⟩),((ud b).trans ((ud u).mono (ud b).size)).alloc (Nat.le_trans (ud b).size (ud u).size) _⟩
theorem zcr{dn:Bool}{w:World}{i:Ids}{c:Cf}{ep:Int}{m:MS}(h:xz dn w i c ep m)(s:Sg):
  Calls prog 53 #[.pointer (E ⟨i.x,0,K⟩),.iface 197 (.agg #[I J s.t,I J s.sr,I J s.wa])] w fun e w'=>∃v,e=.returned v/\vu w' w.1.size v [(s,⟨4,xY⟩)]/\Y w.1.size w w':=by
 obtain⟨t,sr,wa⟩:=s
 dsimp only at*
 obtain⟨X,a⟩:∃X,w.alloc (.cells #[I J t,I J sr,I J wa] 197)=X:=⟨_,rfl⟩
 have f:Y w.1.size w X:=by rw[<-a];exact(Q _ _).alloc (O _) _
 have g:X.1[w.1.size]?=E (.cells #[I J t,I J sr,I J wa] 197 (0,0)):=by rw[<-a];exact zm _ _
 have j:=za g
 obtain⟨o,p,q,-⟩:=zc g
 have l:=fun W=>zjS (.agg #[I J t,I J sr,I J wa]) W
 have k:=fun W=>zjR (.agg #[I J t,I J sr,I J wa]) W
 have d:=zd a
 have b:=zd f
 clear h a f g
 go_enter func53,ntmps53
 go_wp2_with fail
 rw[ud d]
 go_ret
 have n:X.1.size=w.1.size+1:=by rw[<-ud d];exact zL _ _
 rw[<-n]
 exact⟨_,rfl,zaf X w.1.size (ud b).size (⟨t,sr,wa⟩,⟨4,xY⟩),(ud b).alloc (ud b).size _⟩
theorem XG(n:Int)(w:World)(h:0<=n/\n<4):Calls prog 60 #[I J n] w fun e w'=>e=.returned (.bool true)/\w'=w:=by
 obtain⟨a,b⟩:=h
 go_enter func60,ntmps60
 go_wp2_with fail
 go_ret
 exact⟨rfl,rfl⟩
theorem zaS{dn:Bool}{w:World}{i:Ids}{c:Cf}{ep:Int}{m:MS}(h:xz dn w i c ep m)(z:c.ok)(sr tm val:Int)(l:0<=sr/\sr<4)(s:0<=tm/\tm<=m.now)(ab:m.now-c.la<=tm)(a2:m.now<=100000)(a3: -2147483648<=val/\val<=2147483647)(hu:0<=zp m.L/\zp m.L<=1000)(T:zie m.L)(S:∀k:Nat,k<c.n->zQ m.Gl (xW c sr tm k)=K)(a8:c.qu<zp m.L+(1+2*yi c m.L ⟨sr,tm,val⟩ c.n)):
  Calls prog 27 #[.pointer (E ⟨i.x,0,K⟩),I J sr,I J tm,I i32 val] w fun e w'=>e=.returned (I J 4)/\Y w.1.size w w':=by
 obtain⟨a,cap,a1,a0⟩:=h.ts
 obtain⟨c0,c1,c2,c3,c4,c5,F,c7,c8,c9,-⟩:=h.cells
 rw[a1]at F
 have f:=h.lt
 obtain⟨ae,af⟩:=z.qu
 obtain⟨a9,aa⟩:=z.la
 have ac:=qS c m.L ⟨sr,tm,val⟩ c.n
 have ad:=z.n4
 have HU:=fun W R=>zd (Z9 ((h.later (w':=W) R).set) (by unfold xh;omega))
 have A:=fun W R=>zd (KT ((h.later (w':=W) R).set) z sr tm val l ⟨s.1,by omega⟩ T S)
 have HQ:=fun W=>zd (Zu c a cap W)
 have C:=fun W=>zd (Yp c a cap W)
 have B:=fun W=>zd (XG sr W l)
 obtain⟨ag,ah⟩:=hu
 have a5:decide (tm<0)=false:=by simp;omega
 have a6:decide (m.now<tm)=false:=by simp;omega
 have a7:decide (tm<m.now-c.la)=false:=by simp;omega
 have H:=zd h
 generalize P:zp m.L=U at*
 generalize N:yi c m.L ⟨sr,tm,val⟩ c.n=M at*
 obtain⟨V,X⟩:=s
 have s:0<=tm/\tm<=m.now:=⟨V,X⟩
 clear h a0 P N
 go_enter func27,ntmps27
 go_wp2_with(first|(go_at_call 60;refine(ud (B _)).mono ?_;rintro e W9 ⟨rfl,h9⟩;have G:=h9.symm;subst G))
 have v:Nonempty (zU w.1.size w):=zU.some _ _
 have t:=fun(u:zU w.1.size w) b o h=>u.cell b o h
 refine zv w.1.size (by kernel_rfl) (by kernel_rfl) ?_
 repeat(go_big_quiet_step (first
  |(go_at_call 61;exact Calls.later (O _) (ud (C _)))))
 refine wpQuiet_nil ?_
 rintro⟨y,d⟩
 dsimp only
 clear t v
 go_wp2_with fail
 have d0:=(d.cell (p:=⟨i.x,0,K⟩) f).trans c0
 have d1:=(d.cell (p:=⟨i.x,1,K⟩) f).trans c1
 have d2:=(d.cell (p:=⟨i.x,2,K⟩) f).trans c2
 have d3:=(d.cell (p:=⟨i.x,3,K⟩) f).trans c3
 have d4:=(d.cell (p:=⟨i.x,4,K⟩) f).trans c4
 have d5:=(d.cell (p:=⟨i.x,5,K⟩) f).trans c5
 have d6:=(d.cell (p:=⟨i.x,6,K⟩) f).trans F
 have d7:=(d.cell (p:=⟨i.x,7,K⟩) f).trans c7
 have d8:=(d.cell (p:=⟨i.x,8,K⟩) f).trans c8
 have d9:=(d.cell (p:=⟨i.x,9,K⟩) f).trans c9
 have a4:=Z f d.size
 have g:=zd d
 clear c0 c1 c2 c3 c4 c5 F c7 c8 c9 d
 have r:Nonempty (zU y.1.size y):=zU.some _ _
 have q:=fun(u:zU y.1.size y) b o h=>u.cell b o h
 refine zv y.1.size (by kernel_rfl) (by kernel_rfl) ?_
 repeat(go_big_quiet_step (first
  |(go_at_call 43;exact Calls.later (O _) (ud (HU _ ((ud g).trans (Below.mono (Subtype.property _) (ud g).size)))))
  |(go_at_call 62;exact Calls.later (O _) (ud (A _ ((ud g).trans (Below.mono (Subtype.property _) (ud g).size)))))
  |(go_at_call 63;exact Calls.later (O _) (ud (HQ _)))))
 refine wpQuiet_nil ?_
 rintro⟨w2,j⟩
 dsimp only
 clear q r
 have D:=zd ((ud g).trans (j.mono (ud g).size))
 clear j d0 d1 d2 d3 d4 d5 d6 d7 d8 d9
 go_wp2_with fail
 go_ret
 exact⟨rfl,ud D⟩
end Go.Proofs.YtndhpgciopcncaaGreatDoor
