import Derived.Test.YtndhpgciopcncaaGreatDoorVPst0
import Derived.Test.YtndhpgciopcncaaGreatDoorVCop0
import Derived.Test.YtndhpgciopcncaaGreatDoorVOrd4
open Option renaming some → I
open Go.Value renaming int → J
open Go.IntKind renaming i64 → O
open Option renaming none → E
open Go.RowKit.Below renaming refl → Q
open Go.RowKit renaming Below → U
open Go renaming World → Y
set_option linter.unusedVariables false
set_option maxRecDepth 20000
set_option maxHeartbeats 8000000
open Go.Proofs.Tryz
namespace Go.Proofs.YtndhpgciopcncaaGreatDoor
open Go.ChangeMaps (setBlock)
open Go.RowKit Go.Maps Go.Shelf
theorem zbe{dn:Bool}{w:Y}{i:Ids}{c:Cf}{ep:Int}{m:MS}(h:xA dn w i c ep m)(n:Int)(hn:n<1\/1000<n\/100000<m.now+n)(a:0<=m.now/\m.now<=100000):
  Calls prog 26 #[.pointer (I ⟨i.x,0,E⟩),J O n] w fun e w'=>e=.returned (J O 5)/\U w.1.size w w':=by
 obtain⟨-,-,-,-,-,-,-,-,o,-,-⟩:=h.cells
 have l:=h.lt
 obtain⟨j,k⟩:=a
 clear h
 by_cases b:n<1
 ·clear hn
  go_enter func26,ntmps26
  go_wp2_with fail
  go_ret
  exact⟨rfl,Q _ _⟩
 ·have d:decide (n<1)=false:=by simpa using b
  by_cases f:1000<n
  ·clear hn
   go_enter func26,ntmps26
   go_wp2_with fail
   go_ret
   exact⟨rfl,Q _ _⟩
  ·have g:decide (1000<n)=false:=by simpa using f
   have p:100000<m.now+n:=by omega
   clear hn
   go_enter func26,ntmps26
   go_wp2_with fail
   go_ret
   exact⟨rfl,Q _ _⟩
def QD(m':MS)(q a:JM)(now:Int)(xs:List SX):Prop:=
 (YC (VP q.S (xU now xs)) q.st=false/\a=jq q (xU now xs))\/(YC (VP q.S (xU now xs)) q.st=true/\∃b:List SX,b.Perm (Zy m'.L m'.Gl)/\a=zkv (jq q (xU now xs)) (xU now b))
theorem ji{w':Y}{i:Ids}{c:Cf}{ep:Int}{m:MS}{q:JM}{now:Int}{xs:List SX}{e:Ending}(h:vG w' i c ep m q now xs e)(f:vB q.S (xU now xs)=false):e=.returned (J O 13)/\zP w' i c ep m {jq q (xU now xs)with dn:=true}:=by
 rcases h with⟨_,b,d⟩|⟨a,_⟩
 ·exact⟨b,d⟩
 ·rw[f]at a;cases a
theorem kn{w':Y}{i:Ids}{c:Cf}{ep:Int}{m:MS}{q:JM}{now:Int}{xs:List SX}{e:Ending}(h:vG w' i c ep m q now xs e)(k:vB q.S (xU now xs)=true):e=.returned (J O 0)/\∃g,QD (m.took now xs) q g now xs/\zP w' i c ep (m.took now xs) g:=by
 rcases h with⟨d,_⟩|⟨_,f,⟨a,b⟩|⟨a,l,b,j⟩⟩
 ·rw[k]at d;cases d
 ·exact⟨f,_,.inl ⟨a,rfl⟩,b⟩
 ·exact⟨f,_,.inr ⟨a,l,b,rfl⟩,j⟩
def zke(w':Y)(i:Ids)(c:Cf)(ep:Int)(m:MS)(q:JM)(n:Int)(e:Ending):Prop:=
 (vB q.S (xU (m.now+n) [])=false/\e=.returned (J O 13)/\zP w' i c ep m {jq q (xU (m.now+n) [])with dn:=true})
 \/(vB q.S (xU (m.now+n) [])=true/\e=.returned (J O 0)/\∃f d a b,QD (m.took (m.now+n) []) q f (m.now+n) []/\zP w' i c ep {m with now:=m.now+n,TL:=b,QL:=a} f/\VR (m.now+n) m.TL m.QL d a/\(∀p∈a,m.now+n<p.2.til)/\yd c {m with now:=m.now+n,TL:=d,QL:=a} b)
theorem zgy(w:Y)(base:Nat):vy w base (.slice E 0 0) []:=by
 unfold vy;exact World.ownsRow_nil _ _ _ _
theorem zjH{w:Y}{i:Ids}{c:Cf}{ep:Int}{m:MS}{q:JM}(h:zP w i c ep m q)(hc:c.ok)(n:Int)(hn:1<=n/\n<=1000)(Z:0<=m.now/\m.now+n<=100000)(hI:zgL 1000000 100000 m.TL m.QL)(hL:∀p∈m.L,inR c p.1)(X:m.L.length<=2000)(a1:∀r ab,VR (m.now+n) m.TL m.QL r ab->r.length<=50000)
  (t:∀x∈Zy m.L m.Gl,okX x) (af:m.Gl.length<=49000000) (N:Nat) (hN:N<=900000000000) (hd:DOk q.S N) (ag:0<=q.st/\q.st<=1099511627776):
  Calls prog 26 #[.pointer (I ⟨i.x,0,E⟩),J O n] w fun e w'=>zke w' i c ep m q n e/\Kx i w w':=by
 obtain⟨-,-,-,-,-,-,-,-,c8,-,-⟩:=h.own.cells
 have ap:=h.lt
 obtain⟨al,am⟩:=hn
 obtain⟨an,a2⟩:=Z
 have ai:decide (n<1)=false:=by simp;omega
 have aj:decide (1000<n)=false:=by simp;omega
 have ak:decide (100000<m.now+n)=false:=by simp;omega
 have o:=fun W (u:U w.1.size w W)=>jW (h.later u) (m.now+n) (by unfold xg;omega) [] (by simp) t (by simp) (by omega) af N hN hd ag 0 (.slice E 0 0) (zgy _ _)
 have ah:=zd h.dlt
 clear t hd
 cases d:vB q.S (xU (m.now+n) [])
 ·have f:=fun W (u:U w.1.size w W)=>zd ((o W u).mono (fun e T v=>(⟨(ji v.1 d).1,(ji v.1 d).2,v.2⟩:e=.returned (J O 13)/\zP T i c ep m {jq q (xU (m.now+n) [])with dn:=true}/\Kx i W T)))
  have l:=f w (Q _ _)
  clear h o f hI hL a1
  go_enter func26,ntmps26
  go_wp2_with fail
  refine(ud l).mono ?_
  rintro e T ⟨rfl,g,G⟩
  have HM:=zd g
  have HK:=zd G
  clear g G
  go_wp2_with fail
  go_ret
  exact⟨.inl ⟨d,rfl,ud HM⟩,ud HK⟩
 ·have f:=fun W (u:U w.1.size w W)=>zd ((o W u).mono (fun e T v=>(⟨(kn v.1 d).1,(kn v.1 d).2,v.2⟩:e=.returned (J O 0)/\(∃q',QD (m.took (m.now+n) []) q q' (m.now+n) []/\zP T i c ep (m.took (m.now+n) []) q')/\Kx i W T)))
  have l:=f w (Q _ _)
  clear h o f
  go_enter func26,ntmps26
  go_wp2_with fail
  refine(ud l).mono ?_
  rintro e T ⟨rfl,⟨q',hA,M⟩,G⟩
  have g:zP T i c ep {m with now:=m.now+n} q':=M
  obtain⟨-,-,-,-,-,-,-,-,d8,-,C⟩:=g.own.cells
  dsimp only at d8
  have a3:=g.lt
  have HE:=fun W (u:U T.1.size T W)=>zd (zaK ((g.later u).board) (m.now+n) ⟨by omega,a2⟩ hI)
  have z:=HE T (Q _ _)
  have j:=HE T.drew (Q _ _).drew
  have y:∀k,(k=i.tb\/k=i.qb)->¬i.x=k:=fun k e e'=>by
   rcases e with e|e
   ·exact g.x_board k (.inr (.inl e)) e'.symm
   ·exact g.x_board k (.inr (.inr e)) e'.symm
  have B:Hid (¬(i.x=i.tb\/i.x=i.qb)):=fun e=>by
   rcases e with e|e
   ·exact y i.tb (.inl rfl) e
   ·exact y i.qb (.inr rfl) e
  have HM:=zd g
  have HK:=zd G
  have HA:=zd hA
  clear M g G hA HE y l
  go_wp2_with fail
  go_region_held3 (fun w'=>w'.cell? ⟨i.x,8,E⟩=I (J O (m.now+n))/\w'.cell? ⟨i.x,10,E⟩=I (.pointer (I ⟨i.b,0,E⟩))) (go_keep) (first
   |(go_at_call 59;(first|(with_reducible refine(ud z).mono ?_)|(with_reducible refine(ud j).mono ?_));rintro e V1 ⟨rfl,ad,ac,D,a,F,a0⟩;have hK1:zo (fun k=>k=i.tb\/k=i.qb) T V1:=⟨a.os,a.tape,a.output,a.size,a.block⟩;clear a;have g8:=(zN (i:=8) hK1 (ud B) a3).trans d8;have ae:=(zN (i:=10) hK1 (ud B) a3).trans C;have a4:=zd D;have a5:=zd hK1;have j:=zd F;have aa:=zd a0;clear D hK1 F a0 z))
  all_goals(
   have V:zo (vA i.b i.tb i.qb) T V1:=(ud a5).mono (fun k _ e=> .inr e)
   obtain⟨s,H⟩:=(ud HM).putBoard (ud a4) V
   have a9:=zd (YM s.own hc hL X ⟨by show 0<=m.now+n;omega,a2⟩ (a1 _ _ (ud j)))
   have a7:=zd s
   have a6:=zd ((ud HK).trans H)
   have ao:=s.lt
   clear V s H d8 C g8 ae
   go_wp2_with(first|(go_at_call 55;refine(ud a9).mono ?_;rintro e V3 ⟨rfl,r,P,K,R⟩;have A:=zd ((ud a7).put P K (fun k e=> .inr (.inr (.inr (.inl e)))));have a8:=zd R;clear P K R))
   go_ret
   exact⟨.inr ⟨d,rfl,q',ad,ac,r,ud HA,(ud A).1,ud j,ud aa,ud a8⟩,(ud a6).trans (ud A).2⟩)
theorem KE{w W:Y}{i:Ids}{c:Cf}{ep:Int}{m:MS}{q:JM}(h:zP w i c ep m q)(b:U w.1.size w W):∀k,xb W i k->xb w i k:=by
 rintro k (e|e)
 ·exact .inl e
 ·right
  have a:fsB W i.d=fsB w i.d:=by unfold fsB;rw[b.cell (p:=⟨i.d,0,E⟩) h.dlt]
  rw[<-a];exact e
theorem Zf{w W:Y}{i:Ids}{c:Cf}{ep:Int}{m:MS}{q:JM}(h:zP w i c ep m q)(a:U w.1.size w W):¬xb W i w.1.size:=fun e=>absurd (h.foot_lt _ (KE h a _ e)) (Nat.lt_irrefl _)
def zbW(w':Y)(i:Ids)(c:Cf)(ep:Int)(m:MS)(q:JM)(t:Tok)(g:Lse)(xs:List SX)(e:Ending):Prop:=
 (vB q.S (xU m.now xs)=false/\e=.returned (J O 13)/\zP w' i c ep m {jq q (xU m.now xs)with dn:=true})
 \/(vB q.S (xU m.now xs)=true/\e=.returned (J O 0)/\∃b a,QD (m.took m.now xs) q b m.now xs/\zP w' i c ep {m.took m.now xs with TL:=a,QL:=xq m.QL t} b/\yd c {m.took m.now xs with TL:=xq m.TL g.job,QL:=xq m.QL t} a)
theorem zcG{w:Y}{i:Ids}{c:Cf}{ep:Int}{m:MS}{q:JM}(h:zP w i c ep m q)(hc:c.ok)(t:Tok)(ht:t.wf){g:Lse}(hg:zY m.QL t=I g)(hj:g.job.wf)(x:Tsk)(hx:zY m.TL g.job=I x)(xs:List SX)
  (f:∀W,U w.1.size w W->Hid (Calls prog 53 #[.pointer (I ⟨i.x,0,E⟩),zgV (I x)] W fun e w'=>∃v,e=.returned v/\vy w' W.1.size v xs/\U W.1.size W w'))
  (aq:0<=m.now/\m.now<=100000) (aN:m.TL.length<=50000)
  (ar:∀x∈xs,okX x) (a3:∀x∈Zy (m.took m.now xs).L (m.took m.now xs).Gl,okX x) (aG:xs.length<=1000) (aF:m.L.length<=900000) (aE:m.Gl.length<=49000000) (N:Nat) (hN:N<=900000000000) (hd:DOk q.S N) (aH:0<=q.st/\q.st<=1099511627776)
  (al:∀p∈(m.took m.now xs).L,inR c p.1) (R:(m.took m.now xs).L.length<=2000):
  Calls prog 20 #[.pointer (I ⟨i.x,0,E⟩),.agg #[J O t.ep,J O t.num]] w fun e w'=>zbW w' i c ep m q t g xs e/\Kx i w w':=by
 have a9:U w.1.size w (w.alloc (.cells #[J O t.ep,J O t.num] 49)):=(Q _ _).alloc (Nat.le_refl _) _
 have q0:=zk w (.cells #[J O t.ep,J O t.num] 49)
 have qz:=zI w (.cells #[J O t.ep,J O t.num] 49)
 have hX:=h.later a9
 obtain⟨-,-,-,-,-,-,-,-,c8,-,ag⟩:=hX.own.cells
 have aP:=hX.lt
 have aM:=za q0
 obtain⟨k0,k1,-⟩:=zc q0
 have ap:(⟨(qY (zY m.QL t)).kd,(qY (zY m.QL t)).s⟩:Jk).wf:=by rw[hg];exact hj
 have HL:∀W,U w.1.size w W->Hid (Calls prog 51 #[.pointer (I ⟨i.b,0,E⟩),.agg #[J O t.ep,J O t.num]] W fun e w'=>e=.returned (.tuple #[zgV (I x),.bool true])/\U W.1.size W w'):=fun W hW=>by
  have:=vk ((h.later (w':=W) hW).board) t ht ap
  rw[hg]at this
  have e1:zY m.TL ⟨(qY (I g)).kd,(qY (I g)).s⟩=I x:=hx
  rw[e1]at this
  exact this
 have a1:=fun W (hW:U w.1.size w W) base v hv=>jW (h.later hW) m.now (by unfold xg;omega) xs ar a3 aG aF aE N hN hd aH base v hv
 generalize zgV (I x)=JV at HL f
 have a0:=zd a9
 have QZ:=zd qz
 have H:=zd h
 have Q0:=zd q0
 have HG:=zd hg
 have aK:=zd hx
 have ac:=zd aq
 clear h hX a9 q0 qz ap hg hx ar a3 hd
 unfold zbW
 cases a2:vB q.S (xU m.now xs)
 ·have y:=fun W (hW:U w.1.size w W) base v hv=>zd ((a1 W hW base v hv).mono (fun e T hh=>(⟨(ji hh.1 a2).1,(Zu hh.1).1,(ji hh.1 a2).2,hh.2⟩:e=.returned (J O 13)/\T.cell? ⟨i.x,8,E⟩=I (J O m.now)/\zP T i c ep m {jq q (xU m.now xs)with dn:=true}/\Kx i W T)))
  clear a1 al R
  go_enter func20,ntmps20
  go_wp2_with fail
  have p1:w.1.size<w.1.size+1:=by omega
  have p2:i.x<w.1.size+1:=by have:=ud QZ;omega
  generalize(w.alloc (.cells #[J O t.ep,J O t.num] 49))=X at*
  generalize hN:w.1.size+1=N at*
  have ab:Nonempty (zS N X):=zS.some _ _
  have aa:=fun(u:zS N X) b o h=>u.cell b o h
  have P:N<=X.1.size:=by rw[ud QZ];exact Nat.le_refl _
  have a4:=zd P
  have G:Hid (w.1.size<=N):=by show w.1.size<=N;omega
  have HN:=zd hN
  clear P hN
  refine zv N (by kernel_rfl) (by kernel_rfl) ?_
  repeat(go_big_quiet_step (first
   |(go_at_call 51;exact Calls.later (ud a4) (ud (HL _ ((ud a0).trans (Below.mono (Subtype.property _) (ud G))))))))
  refine wpQuiet_nil ?_
  rintro⟨w1,B⟩
  clear aa ab
  dsimp only
  have j:=(ud a0).trans (B.mono (ud G))
  have z:=(ud H).later j
  obtain⟨-,-,-,-,-,-,-,-,e8,-,-⟩:=z.own.cells
  have Z:=z.lt
  have C:=f w1 j
  have D:=f w1.drew j.drew
  have F:=zd j
  clear f k0 k1 c8 ag B j HL z
  go_wp2_with fail
  go_region_held3 (fun w'=>w'.cell? ⟨i.x,8,E⟩=I (J O m.now)) (go_keep) (first
   |(go_at_call 53;(first|(with_reducible refine(ud C).mono ?_)|(with_reducible refine(ud D).mono ?_));rintro e V ⟨v,rfl,l,d⟩;have hv:U w1.1.size w1 V:=⟨d.os,d.tape,d.output,d.size,d.block⟩;clear d;have v8:=(hv.cell (p:=⟨i.x,8,E⟩) Z).trans e8;have aI:=Nat.lt_of_lt_of_le Z hv.size;have n:=(ud F).trans (hv.mono (ud F).size);have a6:=y V n _ v l;have a7:=y V.drew n.drew _ v (xm l (Q _ _).drew);have r:=zd n;clear hv n l y C D)
   |(go_at_call 52;(with_reducible refine(ud a6).mono ?_);rintro e T ⟨rfl,t8,K,A⟩;have HM:=zd K;have HK:=zd ((Kx.below (ud r) (ud H).dlt).trans A);clear K A)
   |(go_at_call 52;(with_reducible refine(ud a7).mono ?_);rintro e T ⟨rfl,t8,K,A⟩;have HM:=zd K;have HK:=zd ((Kx.below (ud r).drew (ud H).dlt).trans A);clear K A))
  all_goals go_wp2_with fail
  all_goals go_ret
  all_goals exact⟨.inl ⟨trivial,rfl,ud HM⟩,ud HK⟩
 ·have y:=fun W (hW:U w.1.size w W) base v hv=>zd ((a1 W hW base v hv).mono (fun e T hh=>(⟨(kn hh.1 a2).1,(Zu hh.1).1,(kn hh.1 a2).2,hh.2⟩:e=.returned (J O 0)/\T.cell? ⟨i.x,8,E⟩=I (J O m.now)/\(∃q',QD (m.took m.now xs) q q' m.now xs/\zP T i c ep (m.took m.now xs) q')/\Kx i W T)))
  clear a1
  go_enter func20,ntmps20
  go_wp2_with fail
  have p1:w.1.size<w.1.size+1:=by omega
  have p2:i.x<w.1.size+1:=by have:=ud QZ;omega
  generalize(w.alloc (.cells #[J O t.ep,J O t.num] 49))=X at*
  generalize hN:w.1.size+1=N at*
  have ab:Nonempty (zS N X):=zS.some _ _
  have aa:=fun(u:zS N X) b o h=>u.cell b o h
  have P:N<=X.1.size:=by rw[ud QZ];exact Nat.le_refl _
  have a4:=zd P
  have G:Hid (w.1.size<=N):=by show w.1.size<=N;omega
  have HN:=zd hN
  clear P hN
  refine zv N (by kernel_rfl) (by kernel_rfl) ?_
  repeat(go_big_quiet_step (first
   |(go_at_call 51;exact Calls.later (ud a4) (ud (HL _ ((ud a0).trans (Below.mono (Subtype.property _) (ud G))))))))
  refine wpQuiet_nil ?_
  rintro⟨w1,B⟩
  clear aa ab
  dsimp only
  have j:=(ud a0).trans (B.mono (ud G))
  have z:=(ud H).later j
  obtain⟨-,-,-,-,-,-,-,-,e8,-,-⟩:=z.own.cells
  have Z:=z.lt
  have au:=(B.block _ (show w.1.size<N by have:=ud HN;omega)).trans (ud Q0)
  have ad:=zd au
  have C:=f w1 j
  have D:=f w1.drew j.drew
  have F:=zd j
  clear f k0 k1 c8 ag B j HL z au
  go_wp2_with fail
  go_region_held3 (fun w'=>w'.cell? ⟨i.x,8,E⟩=I (J O m.now)) (go_keep) (first
   |(go_at_call 53;(first|(with_reducible refine(ud C).mono ?_)|(with_reducible refine(ud D).mono ?_));rintro e V ⟨v,rfl,l,d⟩;have hv:U w1.1.size w1 V:=⟨d.os,d.tape,d.output,d.size,d.block⟩;clear d;have v8:=(hv.cell (p:=⟨i.x,8,E⟩) Z).trans e8;have aI:=Nat.lt_of_lt_of_le Z hv.size;have n:=(ud F).trans (hv.mono (ud F).size);have ae:=zd ((hv.block _ (za (ud ad))).trans (ud ad));have a6:=y V n _ v l;have a7:=y V.drew n.drew _ v (xm l (Q _ _).drew);have r:=zd n;clear hv n l y C D)
   |(go_at_call 52;(with_reducible refine(ud a6).mono ?_);rintro e T ⟨rfl,t8,⟨q',hA,K⟩,A⟩;have a5:=zd (A.kept.heap (ud ae) (Zf (ud H) (ud r)));have HA:=zd hA;have HM:=zd K;have HK:=zd ((Kx.below (ud r) (ud H).dlt).trans A);clear K A hA)
   |(go_at_call 52;(with_reducible refine(ud a7).mono ?_);rintro e T ⟨rfl,t8,⟨q',hA,K⟩,A⟩;have a5:=zd (A.kept.heap (k:=w.1.size) (ud ae) (Zf (ud H) (ud r).drew));have HA:=zd hA;have HM:=zd K;have HK:=zd ((Kx.below (ud r).drew (ud H).dlt).trans A);clear K A hA))
  all_goals(
   have M:zP T i c ep {m with L:=(m.took m.now xs).L,Gl:=(m.took m.now xs).Gl} q':=ud HM
   obtain⟨-,-,-,-,-,-,-,-,-,-,aL⟩:=M.own.cells
   have aO:=M.lt
   obtain⟨t0,t1,-⟩:=zc (ud a5)
   have aJ:=za (ud a5)
   have av:=zd (zfj ((M.later (Q _ _).drew).board) t ht (ud HG) hj)
   have ay:=zd M
   clear M
   go_wp2_with fail
   refine xh 5 (by kernel_rfl) (by kernel_rfl) ?_
   simp only[List.take_succ_cons,List.take_zero,List.drop_succ_cons,List.drop_zero]
   repeat still_step
   refine wpStill_nil ?_
   go_wp2_with(first|(go_at_call 54;refine(ud av).mono ?_;rintro e V2 ⟨rfl,ah,ai⟩;have aC:=zd ah;have aw:=zd ai;clear ah ai))
   have ao:zo (vA i.b i.tb i.qb) T V2:=((zo.refl (vA i.b i.tb i.qb) T).drew).trans ((ud aw).mono (fun k _ e=> .inr e)) (fun _ _ e=>e)
   obtain⟨a8,aj⟩:=(ud ay).putBoard (ud aC) ao
   have aB:=zd (YM a8.own hc al R (ud ac) (by have:=Qu (L:=m.TL) (a:=g.job);show(xq m.TL g.job).length<=50000;omega))
   have az:=zd a8
   have ax:=zd ((ud HK).trans aj)
   clear ao a8 aj
   go_wp2_with(first|(go_at_call 55;refine(ud aB).mono ?_;rintro e V3 ⟨rfl,aD,am,ak,an⟩;have af:=zd ((ud az).put am ak (fun k e=> .inr (.inr (.inr (.inl e)))));have aA:=zd an;clear am ak an))
   go_ret
   exact⟨.inr ⟨trivial,rfl,q',aD,ud HA,(ud af).1,ud aA⟩,(ud ax).trans (ud af).2⟩)
def ms0:MS:=⟨0,[],[],0,[],[]⟩
inductive VN (c:Cf) (ep:Int):MS->List Nm->ByteArray->Prop
 |start (m:MS) (ns:List Nm) (txt:ByteArray) (hf:c.fits) (hs:SOk c ep m ns.length) (ho:∀x∈Zy m.L m.Gl,okX x) (h1:ep=1->m=ms0/\ns=[]/\txt=xU 0 []++nl):VN c ep m ns txt
 |laid (m:MS) (ns:List Nm) (txt:ByteArray) (m':MS) (ns':List Nm) (xs:List SX) (h:VN c ep m ns txt) (ha:yn c ep m ns m' ns') (hx:∀x∈xs,okX x) (hL:m'.L=(yC (m.Gl,m.L) xs).2) (hG:m'.Gl=(yC (m.Gl,m.L) xs).1):VN c ep m' ns' (txt++(xU m'.now xs++nl))
 |quiet (m:MS) (ns:List Nm) (txt:ByteArray) (m':MS) (ns':List Nm) (h:VN c ep m ns txt) (ha:yn c ep m ns m' ns') (hn:m'.now=m.now) (hL:m'.L=m.L) (hG:m'.Gl=m.Gl):VN c ep m' ns' txt
 |anew (m:MS) (ns:List Nm) (txt:ByteArray) (ys:List SX) (h:VN c ep m ns txt) (hp:ys.Perm (Zy m.L m.Gl)):VN c ep m ns (xU m.now ys++nl)
theorem Zn:∀(xs:List SX) (G:List (Sg×Unit)) (L:LV),(∀x∈Zy L G,okX x)->(∀x∈xs,okX x)->∀x∈Zy (yC (G,L) xs).2 (yC (G,L) xs).1,okX x
 |[],G,L,h,_=>h
 |y::xs,G,L,h,d=>by
  have f:=d y (by simp)
  have b:∀x∈Zy (Xe (G,L) y).2 (Xe (G,L) y).1,okX x:=fun x a=>by
   unfold Xe Zy at a
   split at a
   ·rcases List.mem_append.1 a with a|a
    ·exact h x (List.mem_append_left _ (xr.1 a).1)
    ·obtain⟨g,c,rfl⟩:=List.mem_map.1 a
     rcases qI c with rfl|⟨c,_⟩
     ·exact⟨f.key,by show xg 4;unfold xg;omega,by show xg 0;unfold xg;omega,by show xg 0;unfold xg;omega,by show(-2147483648:Int)<=0/\(0:Int)<=2147483647;omega,by show(-2147483648:Int)<=0/\(0:Int)<=2147483647;omega⟩
     ·exact h _ (List.mem_append_right _ (List.mem_map.2 ⟨g,c,rfl⟩))
   ·rcases List.mem_append.1 a with a|a
    ·rcases qh a with rfl|⟨a,_⟩
     ·exact f
     ·exact h x (List.mem_append_left _ a)
    ·exact h x (List.mem_append_right _ a)
  have e:yC (G,L) (y::xs)=yC ((Xe (G,L) y).1,(Xe (G,L) y).2) xs:=rfl
  rw[e]
  exact Zn xs _ _ b (fun x a=>d x (by simp[a]))
section
variable {c:Cf} {ep:Int} {m:MS} {ns:List Nm} {txt:ByteArray}
theorem VN.fits(h:VN c ep m ns txt):c.fits:=by
 induction h with
 |start m ns txt g l j i=>exact g
 |laid m ns txt m' b xs h f n e d a=>exact a
 |quiet m ns txt m' b h f hn e d a=>exact a
 |anew m ns txt o h k a=>exact a
theorem VN.sok(h:VN c ep m ns txt)(f:c.ok):SOk c ep m ns.length:=by
 have d:=h.fits
 induction h with
 |start m ns txt d j l k=>exact j
 |laid m ns txt m' e xs h b o i g a=>exact b.ok f d a
 |quiet m ns txt m' e h b hn i g a=>exact b.ok f d a
 |anew m ns txt p h n a=>exact a
theorem VN.okA(h:VN c ep m ns txt):∀x∈Zy m.L m.Gl,okX x:=by
 induction h with
 |start m ns txt k n g j=>exact g
 |laid m ns txt m' e xs h f i d b a=>rw[d,b];exact Zn xs _ _ a i
 |quiet m ns txt m' e h f hn d b a=>rw[d,b];exact a
 |anew m ns txt o h l a=>exact a
end
structure Xr(w:Y)(i:Ids)(c:Cf)(ep:Int)(m:MS)(q:JM)(txt:ByteArray)(ns:List Nm):Prop where
 at_:zP w i c ep m q
 up:q.dn=false
 dsk:q.S=jS ep.toNat txt
 e1:1<=ep/\ep<=1000000000
 st:0<=q.st/\q.st<=100000000000
 tx:(txt.size:Int)<=2*q.st+4096
 hist:VN c ep m ns txt
def zA(w:Y)(i:Ids)(c:Cf)(ep:Int)(m:MS):Prop:=∃q txt ns,Xr w i c ep m q txt ns
section
variable {w w':Y} {i:Ids} {c:Cf} {ep:Int} {m:MS} {q:JM} {txt:ByteArray} {ns:List Nm}
theorem zA.own(h:zA w i c ep m):xA false w i c ep m:=by
 obtain⟨q,txt,ns,h⟩:=h
 have:=h.at_.own
 rw[h.up]at this;exact this
theorem zA.head(h:zA w i c ep m):w.1[i.x]?=I (.cells #[J O c.s,J O c.le,J O c.la,J O c.wi,J O c.ke,J O c.qu,i.tv,J O ep,J O m.now,.pointer (I ⟨i.s,0,E⟩),.pointer (I ⟨i.b,0,E⟩),.pointer (I ⟨i.j,0,E⟩),.bool false] 94 (0,0)):=h.own.head
theorem zA.set(h:zA w i c ep m):xt w i.s c i.tv i.lb i.gb m.Gl m.L:=h.own.set
theorem zA.board(h:zA w i c ep m):zy w i.b c i.tv ep m.num i.tb i.qb m.TL m.QL:=h.own.board
theorem zA.lt(h:zA w i c ep m):i.x<w.1.size:=za h.head
theorem zA.dlt(h:zA w i c ep m):i.d<w.1.size:=by obtain⟨q,txt,ns,h⟩:=h;exact h.at_.dlt
theorem zA.tab(h:zA w i c ep m):Zz w:=by obtain⟨q,txt,ns,h⟩:=h;exact h.at_.tab
theorem zA.ts(h:zA w i c ep m):∃a cap,i.tv=.slice a c.n cap/\TS w a c.n c.F c.W c.K:=h.own.ts
theorem zA.cells(h:zA w i c ep m):w.cell? ⟨i.x,0,E⟩=I (J O c.s)/\w.cell? ⟨i.x,1,E⟩=I (J O c.le)/\w.cell? ⟨i.x,2,E⟩=I (J O c.la)/\w.cell? ⟨i.x,3,E⟩=I (J O c.wi)/\w.cell? ⟨i.x,4,E⟩=I (J O c.ke)/\w.cell? ⟨i.x,5,E⟩=I (J O c.qu)/\w.cell? ⟨i.x,6,E⟩=I i.tv/\w.cell? ⟨i.x,7,E⟩=I (J O ep)/\w.cell? ⟨i.x,8,E⟩=I (J O m.now)/\w.cell? ⟨i.x,9,E⟩=I (.pointer (I ⟨i.s,0,E⟩))/\w.cell? ⟨i.x,10,E⟩=I (.pointer (I ⟨i.b,0,E⟩)):=h.own.cells
theorem zA.kept{f:Nat->Prop}(h:zA w i c ep m)(a:zo f w w')(hn:∀k,xb w i k->¬f k)(b:¬f Qm):zA w' i c ep m:=by
 obtain⟨q,txt,ns,h⟩:=h
 exact⟨q,txt,ns,h.at_.kept a hn b,h.up,h.dsk,h.e1,h.st,h.tx,h.hist⟩
theorem zA.later(h:zA w i c ep m)(b:U w.1.size w w'):zA w' i c ep m:=h.kept (f:=fun _=>False) (zo.of_below b) (fun _ _ a=>a) (fun a=>a)
theorem zA.foot_lt(h:zA w i c ep m):∀k,xb w i k->k<w.1.size:=by obtain⟨q,txt,ns,h⟩:=h;exact h.at_.foot_lt
theorem zA.tn(h:zA w i c ep m):∀k,xb w i k->k≠Qm:=by obtain⟨q,txt,ns,h⟩:=h;exact h.at_.tn
theorem zA.below(h:zA w i c ep m)(a:U w.1.size w w'):Kx i w w':=Kx.below a h.dlt
def zib(t:TypeId):Bool:=t==94||t==155||t==80||t==171||t==216||t==111||t==113
theorem zP.tagQ(h:zP w i c ep m q){k:Nat}{cs:Array Value}{t:TypeId}{v:Nat×Nat}(o:w.1[k]?=I (.cells cs t v))(r:zib t=false):¬xb w i k:=fun x=>by
 unfold zib at r
 simp only[Bool.or_eq_false_iff,beq_eq_false_iff_ne]at r
 obtain⟨⟨⟨⟨⟨⟨z,t2⟩,t3⟩,t4⟩,t5⟩,A⟩,B⟩:=r
 obtain⟨fs,s⟩:=h.jrn
 have p:¬jr i k:=fun e=>by
  rcases h.otag k e with⟨l,y,n,f,g⟩|⟨D,C,u⟩
  ·have b:=jm o f
   rcases g with a|a|a|a
   ·exact z (b.trans a)
   ·exact t2 (b.trans a)
   ·exact t3 (b.trans a)
   ·exact t4 (b.trans a)
  ·rw[o]at u;cases u
 have hn:¬vM i.j i.d fs k:=fun e=>by
  obtain⟨l,y,n,f,g⟩:=s.tag k e
  have b:=jm o f
  rcases g with a|a|a
  ·exact t5 (b.trans a)
  ·exact A (b.trans a)
  ·exact B (b.trans a)
 rcases x with(e|e|e|e|e)|e
 ·exact p (.inl e)
 ·exact p (.inr (.inl e))
 ·exact p (.inr (.inr e))
 ·exact hn (.inl e)
 ·exact hn (.inr (.inl e))
 ·exact hn (.inr (.inr (s.fsB▸e)))
theorem zA.tag(h:zA w i c ep m){k:Nat}{cs:Array Value}{t:TypeId}{a:Nat×Nat}(b:w.1[k]?=I (.cells cs t a))(d:zib t=false):¬xb w i k:=by
 obtain⟨q,txt,ns,h⟩:=h
 exact h.at_.tagQ b d
theorem Xr.dok(h:Xr w i c ep m q txt ns):DOk q.S 400000000000:=by
 rw[h.dsk]
 have a:=h.tx;have b:=h.st;have d:=h.e1
 exact zjh (by omega) (by omega) (by omega)
theorem Xr.lens(h:Xr w i c ep m q txt ns)(a:c.ok):m.L.length<=400/\m.Gl.length<=2000020:=⟨(h.hist.sok a).ok.seg.len400 a,(h.hist.sok a).gl a⟩
theorem Xr.lay(h:Xr w i c ep m q txt ns)(a:ByteArray):vB q.S a=true:=by rw[h.dsk];exact(zgX _ _ _).2
theorem Xr.after(h:Xr w i c ep m q txt ns)(l:c.ok){m':MS}{a:List Nm}{now:Int}{xs:List SX}(y:yn c ep m ns m' a)(n:∀x∈xs,okX x)(hn:m'.now=now)(p:m'.L=(m.took now xs).L)(o:m'.Gl=(m.took now xs).Gl){u:JM}(v:QD (m.took now xs) q u now xs)(s:zP w' i c ep m' u):zA w' i c ep m':=by
 subst hn
 have e:VN c ep m' a (txt++(xU m'.now xs++nl)):=.laid m ns txt m' a xs h.hist y n p o
 have k:=e.sok l
 have g:=(zgX ep.toNat txt (xU m'.now xs)).1
 have z:=h.st
 rcases v with⟨f,rfl⟩|⟨f,b,j,rfl⟩
 ·refine⟨_,_,_,s,h.up,?_,h.e1,h.st,?_,e⟩
  ·show VP q.S (xU m'.now xs)=_;rw[h.dsk,g]
  ·show((txt++(xU m'.now xs++nl)).size:Int)<=2*q.st+4096
   unfold YC at f
   rw[h.dsk,g,zis]at f
   have:=of_decide_eq_false f
   omega
 ·rw[<-p,<-o]at j
  obtain⟨B,_,C⟩:=zjO ep.toNat (txt++(xU m'.now xs++nl)) (xU m'.now b)
  have t:=k.ok.now
  have r:=Zp (now:=m'.now) (xs:=b) (by unfold xg;omega) (fun x n=>e.okA x (j.mem_iff.1 n))
  have D:=k.ok.seg.len400 l
  have F:=k.gl l
  have G:b.length=m'.L.length+m'.Gl.length:=by rw[j.length_eq];unfold Zy;rw[List.length_append,List.length_map]
  have A:(xU m'.now b).size<=1000000000:=by rw[Zo];omega
  have d:(zkv (jq q (xU m'.now xs)) (xU m'.now b)).st=(xU m'.now b).size+1:=by
   show zah (VP q.S (xU m'.now xs)) (xU m'.now b) q.st=_
   unfold zah
   rw[h.dsk,g,C];rfl
  refine⟨_,_,_,s,h.up,?_,h.e1,?_,?_,VN.anew m' a _ b e j⟩
  ·show zbx (VP q.S (xU m'.now xs)) (xU m'.now b)=_;rw[h.dsk,g,B]
  ·rw[d];omega
  ·rw[d,XZ];omega
theorem Xr.quiet(h:Xr w i c ep m q txt ns){m':MS}{a:List Nm}(k:yn c ep m ns m' a)(hn:m'.now=m.now)(j:m'.L=m.L)(g:m'.Gl=m.Gl)(n:xA false w' i c ep m')(l:zo (jr i) w w'):zA w' i c ep m'/\Kx i w w':=by
 have b:xA q.dn w' i c ep m':=by rw[h.up];exact n
 obtain⟨d,f⟩:=h.at_.put b l (fun _ e=>e)
 exact⟨⟨q,txt,a,d,h.up,h.dsk,h.e1,h.st,h.tx,.quiet m ns txt m' a h.hist k hn j g⟩,f⟩
end
end Go.Proofs.YtndhpgciopcncaaGreatDoor
