import Derived.Test.YtndhpgciopcncaaGreatDoorPStp1
import Derived.Test.YtndhpgciopcncaaGreatDoorPKop0
import Derived.Deep.RegionHeld3
open Option renaming some → J
open Go.Value (int)
open Go.IntKind (i32)
set_option linter.unusedVariables false
set_option maxRecDepth 40000
set_option maxHeartbeats 4000000
namespace Go.Proofs.YtndhpgciopcncaaGreatDoor
open Go.RowKit Go.Maps Go.Shelf
theorem zgi{w:World}{p g:Nat}{ws:List Int}{k:Nat}(h:Ya w p g ws k)(c:Cf)(hc:c.ok)(a:Option Addr)(cap:Nat)(x:SX)(hx:rdX c x)(aA:x.2.st=3)(hw:∀j n,(ZA x)[j]?=J n->ws[k+j]?=J n):
  Calls Tryz.prog 201 #[(O p),(cZz c a cap)] w fun e w'=>e=.returned (.agg (xZz x))/\Ya w' p g ws (k+(ZA x).length)/\zh (fun q=>q=p) w w':=by
 obtain⟨⟨t,sr,wn⟩,⟨st,⟨cnt,sum,mn,mx⟩⟩⟩:=x
 obtain⟨ad,ar,-⟩:=h.head
 have pl:=zd ar
 have gl:=zd h.row
 have b4:=hc.n4
 obtain⟨t1,t2⟩:=hx.t
 obtain⟨s1,s2⟩:=hx.sr
 obtain⟨w1,w2⟩:=hx.wn
 obtain⟨e1,e2⟩:=hx.st
 have L:=hx.cel
 have av:=hx.no
 have Y:=hx.raw
 dsimp only at t1 t2 s1 s2 w1 w2 e1 e2 L av Y aA ⊢
 subst aA
 clear hx
 have b5:¬t= -1:=by exact fun e=>absurd ((Y (by omega)).2 e) (by omega)
 obtain⟨q1,q2,q3,⟨q4,q5⟩,q6,q7⟩:=L rfl
 have aB:ZA (⟨t,sr,wn⟩,⟨3,⟨cnt,sum,mn,mx⟩⟩)=[t,sr,wn,3,cnt,sum,mn,mx]:=rfl
 have H:=ze aB
 clear L av Y aB e1 e2
 obtain⟨y0,y1,y2,a6,hz⟩:=J5 w (.cells (aZz c a cap) 89) zak zak
 have HT:=fun W=>ze (kS c a cap W)
 have ap:=h.kept (zh.of_below (f:=fun _=>False) a6) (fun e=>e) (fun e=>e)
 obtain⟨l0,-⟩:=zc y0
 have a0:=ze a6
 have ag:=ze ap
 have Y2:=ze y2
 have Y1:=ze y1
 have HZ:=ze hz
 clear h ar a6 ap y0 y1 y2 l0 hz
 go_enter Tryz.func201,Tryz.ntmps201
 go_wp2_with fail
 generalize(((w.alloc (.cells (aZz c a cap) 89)).alloc zak).alloc zak)=X at*
 refine(ud (HT _)).mono ?_
 rintro e X1 ⟨rfl,K⟩
 have hz:=ud HZ
 obtain⟨b,aq⟩:∃b,w.1.size+1+1=b:=⟨_,rfl⟩
 have D:X1.1[b]?=J (.cells #[I 0,I 0,I 0,I 0,I 0,I 0,int i32 0,int i32 0] 148 (0,0)):=by rw[<-aq];exact(K.block _ (by omega)).trans (ud Y2)
 obtain⟨F,ay⟩:∃F,w.1.size+1=F:=⟨_,rfl⟩
 have az:X1.1[F]?=J (.cells #[I 0,I 0,I 0,I 0,I 0,I 0,int i32 0,int i32 0] 148 (0,0)):=by rw[<-ay];exact(K.block _ (by omega)).trans (ud Y1)
 have aD:=ze az
 have l:zh (fun q=>q=p\/q=b) X1 X1:=zh.refl _ _
 have C:=(ud ag).kept (zh.of_below (f:=fun _=>False) K) (fun e=>e) (fun e=>e)
 have o:zh (fun q=>q=p) w X1:=zh.of_below ((ud a0).trans (K.mono (ud a0).size))
 have b2:=fun W=>Yq b W
 have A:¬b=p:=by omega
 have E:¬b=g:=by omega
 rw[aq,ay]
 have ax:¬F=p:=by omega
 have aw:¬F=b:=by omega
 clear K HT ag Y1 Y2 a0 HZ az
 go_wp2_with fail
 have a7:=ze (zW C (n:=t) (hw 0 _ (by rfl)) (by unfold xg;omega) (-1) (c.n-1) (by omega) (by omega))
 refine(ud a7).mono ?_
 rintro e V0 ⟨rfl,ah,a1⟩
 have M:=a1.heap D (show¬b=p from A)
 obtain⟨aF,-⟩:=zc M
 have aL:=zv M 0
 have aS:=zd M
 have r:=xy (i:=0) M (I t)
 have d:zh (fun q=>q=p\/q=b) X1 (V0.setCell (U b 0) (I t)):=(a1.mono (fun _ _ e=> .inl e)).trans (zh.setCell (f:=fun q=>q=b) (zh.refl _ _) (p:=(U b 0)) (fun _=>rfl) _) (fun _ _ e=> .inr e)
 have m:=ah.kept (zh.setCell (f:=fun q=>q=b) (zh.refl _ _) (p:=(U b 0)) (fun _=>rfl) (I t)) (fun e=>A e.symm) (fun e=>E e.symm)
 have u:=ze m
 have z:=ze r
 have y:=ze (l.trans d (fun _ _ e=>e))
 have s:=ze (o.trans d (fun _ hk e=>e.elim id (fun e=>absurd e (by omega))))
 clear C ah a1 D m r d o l a7
 go_wp2_with fail
 generalize B:V0.setCell (U b 0) (I t)=W0 at*
 have C:=ud u
 have D:=ud z
 have o:=ud s
 have l:=ud y
 clear u z s y M aF aL aS B
 have a8:=ze (zW C (n:=sr) (hw 1 _ (by rfl)) (by unfold xg;omega) 0 3 (by omega) (by omega))
 refine(ud a8).mono ?_
 rintro e V1 ⟨rfl,ai,hK1⟩
 have N:=hK1.heap D (show¬b=p from A)
 obtain⟨-,aG,-⟩:=zc N
 have aM:=zv N 1
 have aT:=zd N
 have r:=xy (i:=1) N (I sr)
 have d:zh (fun q=>q=p\/q=b) W0 (V1.setCell (U b 1) (I sr)):=(hK1.mono (fun _ _ e=> .inl e)).trans (zh.setCell (f:=fun q=>q=b) (zh.refl _ _) (p:=(U b 1)) (fun _=>rfl) _) (fun _ _ e=> .inr e)
 have m:=ai.kept (zh.setCell (f:=fun q=>q=b) (zh.refl _ _) (p:=(U b 1)) (fun _=>rfl) (I sr)) (fun e=>A e.symm) (fun e=>E e.symm)
 have u:=ze m
 have z:=ze r
 have y:=ze (l.trans d (fun _ _ e=>e))
 have s:=ze (o.trans d (fun _ hk e=>e.elim id (fun e=>absurd e (by omega))))
 clear C ai hK1 D m r d o l a8
 go_wp2_with fail
 generalize B:V1.setCell (U b 1) (I sr)=W1 at*
 have C:=ud u
 have D:=ud z
 have o:=ud s
 have l:=ud y
 clear u z s y N aG aM aT B
 have a9:=ze (zW C (n:=wn) (hw 2 _ (by rfl)) (by unfold xg;omega) 0 100000 (by omega) (by omega))
 refine(ud a9).mono ?_
 rintro e V2 ⟨rfl,aj,hK2⟩
 have P:=hK2.heap D (show¬b=p from A)
 obtain⟨-,-,hc2,-⟩:=zc P
 have aN:=zv P 2
 have aU:=zd P
 have r:=xy (i:=2) P (I wn)
 have d:zh (fun q=>q=p\/q=b) W1 (V2.setCell (U b 2) (I wn)):=(hK2.mono (fun _ _ e=> .inl e)).trans (zh.setCell (f:=fun q=>q=b) (zh.refl _ _) (p:=(U b 2)) (fun _=>rfl) _) (fun _ _ e=> .inr e)
 have m:=aj.kept (zh.setCell (f:=fun q=>q=b) (zh.refl _ _) (p:=(U b 2)) (fun _=>rfl) (I wn)) (fun e=>A e.symm) (fun e=>E e.symm)
 have u:=ze m
 have z:=ze r
 have y:=ze (l.trans d (fun _ _ e=>e))
 have s:=ze (o.trans d (fun _ hk e=>e.elim id (fun e=>absurd e (by omega))))
 clear C aj hK2 D m r d o l a9
 go_wp2_with fail
 generalize B:V2.setCell (U b 2) (I wn)=W2 at*
 have C:=ud u
 have D:=ud z
 have o:=ud s
 have l:=ud y
 clear u z s y P hc2 aN aU B
 have aa:=ze (zW C (n:=3) (hw 3 _ (by rfl)) (by unfold xg;omega) 1 4 (by omega) (by omega))
 refine(ud aa).mono ?_
 rintro e V3 ⟨rfl,ak,a2⟩
 have Q:=a2.heap D (show¬b=p from A)
 obtain⟨-,-,-,aH,-⟩:=zc Q
 have aO:=zv Q 3
 have aV:=zd Q
 have r:=xy (i:=3) Q (I 3)
 have d:zh (fun q=>q=p\/q=b) W2 (V3.setCell (U b 3) (I 3)):=(a2.mono (fun _ _ e=> .inl e)).trans (zh.setCell (f:=fun q=>q=b) (zh.refl _ _) (p:=(U b 3)) (fun _=>rfl) _) (fun _ _ e=> .inr e)
 have m:=ak.kept (zh.setCell (f:=fun q=>q=b) (zh.refl _ _) (p:=(U b 3)) (fun _=>rfl) (I 3)) (fun e=>A e.symm) (fun e=>E e.symm)
 have u:=ze m
 have z:=ze r
 have y:=ze (l.trans d (fun _ _ e=>e))
 have s:=ze (o.trans d (fun _ hk e=>e.elim id (fun e=>absurd e (by omega))))
 clear C ak a2 D m r d o l aa
 go_wp2_with fail
 refine(yZ 3 _).mono ?_
 rintro e U9 ⟨rfl,aE⟩
 subst aE
 generalize B:V3.setCell (U b 3) (I 3)=W3 at*
 have C:=ud u
 have D:=ud z
 have o:=ud s
 have l:=ud y
 clear u z s y Q aH aO aV B
 go_wp2_with fail
 have ab:=ze (zW C (n:=cnt) (hw 4 _ (by rw[ud H];rfl)) (by unfold xg;omega) 1 2147483647 (by omega) (by omega))
 refine(ud ab).mono ?_
 rintro e V4 ⟨rfl,al,a3⟩
 have R:=a3.heap D (show¬b=p from A)
 obtain⟨-,-,-,-,aI,-⟩:=zc R
 have aP:=zv R 4
 have aW:=zd R
 have r:=xy (i:=4) R (I cnt)
 have d:zh (fun q=>q=p\/q=b) W3 (V4.setCell (U b 4) (I cnt)):=(a3.mono (fun _ _ e=> .inl e)).trans (zh.setCell (f:=fun q=>q=b) (zh.refl _ _) (p:=(U b 4)) (fun _=>rfl) _) (fun _ _ e=> .inr e)
 have m:=al.kept (zh.setCell (f:=fun q=>q=b) (zh.refl _ _) (p:=(U b 4)) (fun _=>rfl) (I cnt)) (fun e=>A e.symm) (fun e=>E e.symm)
 have u:=ze m
 have z:=ze r
 have y:=ze (l.trans d (fun _ _ e=>e))
 have s:=ze (o.trans d (fun _ hk e=>e.elim id (fun e=>absurd e (by omega))))
 clear C al a3 D m r d o l ab
 go_wp2_with fail
 generalize B:V4.setCell (U b 4) (I cnt)=W4 at*
 have C:=ud u
 have D:=ud z
 have o:=ud s
 have l:=ud y
 clear u z s y R aI aP aW B
 have ac:=ze (zW C (n:=sum) (hw 5 _ (by rw[ud H];rfl)) (by exact q3) (-9223372036854775808) 9223372036854775807 (by exact q3.1) (by exact q3.2))
 refine(ud ac).mono ?_
 rintro e V5 ⟨rfl,am,a4⟩
 have S:=a4.heap D (show¬b=p from A)
 obtain⟨-,-,-,-,-,aJ,-⟩:=zc S
 have aQ:=zv S 5
 have aX:=zd S
 have r:=xy (i:=5) S (I sum)
 have d:zh (fun q=>q=p\/q=b) W4 (V5.setCell (U b 5) (I sum)):=(a4.mono (fun _ _ e=> .inl e)).trans (zh.setCell (f:=fun q=>q=b) (zh.refl _ _) (p:=(U b 5)) (fun _=>rfl) _) (fun _ _ e=> .inr e)
 have m:=am.kept (zh.setCell (f:=fun q=>q=b) (zh.refl _ _) (p:=(U b 5)) (fun _=>rfl) (I sum)) (fun e=>A e.symm) (fun e=>E e.symm)
 have u:=ze m
 have z:=ze r
 have y:=ze (l.trans d (fun _ _ e=>e))
 have s:=ze (o.trans d (fun _ hk e=>e.elim id (fun e=>absurd e (by omega))))
 clear C am a4 D m r d o l ac
 go_wp2_with fail
 generalize B:V5.setCell (U b 5) (I sum)=W5 at*
 have C:=ud u
 have D:=ud z
 have o:=ud s
 have l:=ud y
 clear u z s y S aJ aQ aX B
 have ae:=ze (zW C (n:=mn) (hw 6 _ (by rw[ud H];rfl)) (by unfold xg;omega) (-2147483648) 2147483647 (by omega) (by omega))
 refine(ud ae).mono ?_
 rintro e V6 ⟨rfl,an,a5⟩
 have T:=a5.heap D (show¬b=p from A)
 obtain⟨-,-,-,-,-,-,aK,-⟩:=zc T
 have aR:=zv T 6
 have aY:=zd T
 have r:=xy (i:=6) T (int i32 mn)
 have d:zh (fun q=>q=p\/q=b) W5 (V6.setCell (U b 6) (int i32 mn)):=(a5.mono (fun _ _ e=> .inl e)).trans (zh.setCell (f:=fun q=>q=b) (zh.refl _ _) (p:=(U b 6)) (fun _=>rfl) _) (fun _ _ e=> .inr e)
 have m:=an.kept (zh.setCell (f:=fun q=>q=b) (zh.refl _ _) (p:=(U b 6)) (fun _=>rfl) (int i32 mn)) (fun e=>A e.symm) (fun e=>E e.symm)
 have u:=ze m
 have z:=ze r
 have y:=ze (l.trans d (fun _ _ e=>e))
 have s:=ze (o.trans d (fun _ hk e=>e.elim id (fun e=>absurd e (by omega))))
 clear C an a5 D m r d o l ae
 go_wp2_with fail
 generalize B:V6.setCell (U b 6) (int i32 mn)=W6 at*
 have C:=ud u
 have D:=ud z
 have o:=ud s
 have l:=ud y
 clear u z s y T aK aR aY B
 have af:=ze (zW C (n:=mx) (hw 7 _ (by rw[ud H];rfl)) (by unfold xg;omega) (-2147483648) 2147483647 (by omega) (by omega))
 refine(ud af).mono ?_
 rintro e V7 ⟨rfl,ao,Z⟩
 have G:=Z.heap D (show¬b=p from A)
 obtain⟨-,-,-,-,-,-,-,b0,-⟩:=zc G
 have b1:=zv G 7
 have b3:=zd G
 have r:=xy (i:=7) G (int i32 mx)
 have V:=(l.trans (Z.mono (g:=fun q=>q=p\/q=b) (fun _ _ e=> .inl e)) (fun _ _ e=>e)).heap (ud aD) (fun e=>e.elim ax aw)
 obtain⟨r0,r1,r2,r3,r4,r5,r6,r7⟩:=z8 V
 have rf:=fun j=>zv V j
 have rl:=zd V
 have aC:=ze V
 obtain⟨z0,z1,z2,z3,z4,z5,z6,z7⟩:=z8 G
 clear V
 have d:zh (fun q=>q=p\/q=b) W6 (V7.setCell (U b 7) (int i32 mx)):=(Z.mono (fun _ _ e=> .inl e)).trans (zh.setCell (f:=fun q=>q=b) (zh.refl _ _) (p:=(U b 7)) (fun _=>rfl) _) (fun _ _ e=> .inr e)
 have m:=ao.kept (zh.setCell (f:=fun q=>q=b) (zh.refl _ _) (p:=(U b 7)) (fun _=>rfl) (int i32 mx)) (fun e=>A e.symm) (fun e=>E e.symm)
 have u:=ze m
 have z:=ze r
 have y:=ze l
 have s:=ze (o.trans d (fun _ hk e=>e.elim id (fun e=>absurd e (by omega))))
 clear G C ao Z D m r d o l af
 go_wp2_with fail
 have aZ:(V7.setCell (U b 7) (int i32 mx)).1[F]?=J (.cells #[I 0,I 0,I 0,I 0,I 0,I 0,int i32 0,int i32 0] 148 (0,0)):=(Below.heap_setCell _ _ _ _ (show F≠((U b 7):Addr).block from aw)).trans (ud aC)
 have hf:=zdd aZ (I t) (I sr) (I wn) (I 3) (I cnt) (I sum) (int i32 mn) (int i32 mx)
 have au:zh (fun q=>q=F) (V7.setCell (U b 7) (int i32 mx)) (((((((((V7.setCell (U b 7) (int i32 mx)).setCell (U F 0) (I t)).setCell (U F 1) (I sr)).setCell (U F 2) (I wn)).setCell (U F 3) (I 3)).setCell (U F 4) (I cnt)).setCell (U F 5) (I sum)).setCell (U F 6) (int i32 mn)).setCell (U F 7) (int i32 mx)):=(zg (zg (zg (zg (zg (zg (zg (zg (zh.refl _ _) rfl) rfl) rfl) rfl) rfl) rfl) rfl) rfl)
 refine bodyPost_ret (v:=.agg #[I t,I sr,I wn,I 3,I cnt,I sum,int i32 mn,int i32 mx]) (results_cell_row Tryz.results201 _ _ F _ _ _ _ rfl hf Tryz.underlying148 rfl (by kernel_rfl)) rfl ?_
 exact⟨rfl,by rw[ud H];exact(ud u).kept au (fun e=>ax e.symm) (fun e=>absurd e (by omega)),(ud s).trans au (fun _ hk e=>absurd e (by omega))⟩
section
variable {c:Cf} {ep:Int} {m:MS} {r:RM}
theorem X8.more(h:X8 c m){d:List (Jk×Tsk)}{Q':List (Tok×Lse)}{n':Int}(e:∀k,k∈zj m.TL->k∈zj d):X8 c {m with num:=n',TL:=d,QL:=Q'}:=by
 obtain⟨f,j,g,i⟩:=h
 exact⟨f,j,fun s b a=>e _ (g s b a),fun s b a=>e _ (i s b a)⟩
theorem yh.pick_busy(h:yh c ep m r){slot:Int}(a:0<=slot/\slot<c.s)(b:m.QL.any (fun p=>p.2.slot==slot)=true):r.pick slot=(r,zoS,6):=by
 unfold RM.pick
 rw[if_neg (by rw[h.tie.hc];omega),if_pos (by rw[YG h.sok.ok h.tsk slot a.1];exact b)]
theorem yh.pick_idle(h:yh c ep m r){slot:Int}(a:0<=slot/\slot<c.s)(b:m.QL.any (fun p=>p.2.slot==slot)=false)(d:∀p∈m.TL,yO m.QL m.now p.2=false):r.pick slot=(r,zoS,7):=by
 unfold RM.pick
 rw[if_neg (by rw[h.tie.hc];omega),if_neg (by rw[YG h.sok.ok h.tsk slot a.1,b];decide),Go.Proofs.YtndhpgciopcncaaGreatDoor.pick_idle h.tsk h.tie.now h.slot d]
theorem QK{QL:List (Tok×Lse)}{t:Tok}{v:Lse}(a:t∉zj QL)(q:Tok×Lse):q∈xZ QL t v↔q=(t,v)\/q∈QL:=by
 unfold xZ
 rw[if_neg a,List.mem_append,List.mem_singleton]
 exact or_comm
theorem yh.pick(h:yh c ep m r){slot:Int}(f:0<=slot/\slot<c.s)(x:m.QL.any (fun p=>p.2.slot==slot)=false){p:Jk×Tsk}(o:p∈m.TL)(i:yO m.QL m.now p.2=true)(z:YC c m.now (yn (zJ m.L) c.qu) m.QL m.TL p.2):
  (r.pick slot).2.2=0/\(r.pick slot).2.1=⟨p.2.kd,p.2.s,p.2.se,p.2.ti,p.2.rest,ep,m.num+1,slot,m.now+c.le⟩/\yh c ep {m with num:=m.num+1,QL:=xZ m.QL ⟨ep,m.num+1⟩ ⟨p.2.kd,p.2.s,slot,m.now+c.le⟩} (r.pick slot).1:=by
 obtain⟨j,y,v⟩:=ziN h.sok.ok h.tie.hc h.tsk h.tie.now h.tight h.slot o i z
 have w:r.pick slot=({r with picks:=r.picks+1,td:=r.td.modify j (Tk.leased ep (m.num+1) slot (m.now+c.le))},Tk.leased ep (m.num+1) slot (m.now+c.le) (yU m.QL p.2),0):=by
  unfold RM.pick
  rw[if_neg (by rw[h.tie.hc];omega),if_neg (by rw[YG h.sok.ok h.tsk slot f.1,x];decide),y]
  simp only[v,Option.getD_some,h.picks,h.epo,h.tie.now,h.tie.hc]
 rw[w]
 obtain⟨A,g⟩:=Vu i
 have u:yL c ep m r.nu {m with num:=m.num+1,QL:=xZ m.QL ⟨ep,m.num+1⟩ ⟨p.2.kd,p.2.s,slot,m.now+c.le⟩} r.nu:=.taken m r.nu p slot o i
 have d:=u.ok h.ok h.fits h.sok
 have b:(⟨ep,m.num+1⟩:Tok)∉zj m.QL:=fun l=>by
  obtain⟨q,a,e⟩:=List.mem_map.1 (show(⟨ep,m.num+1⟩:Tok)∈m.QL.map (·.1)from l)
  have:=(h.sok.ok.leas q a).num.2
  rw[e]at this
  dsimp only at this;omega
 have n:∀q∈m.QL,q.2.job≠p.2.key:=fun q a e=>by
  unfold k7 at g
  rw[List.any_eq_false]at g
  exact g q a (decide_eq_true (show(⟨q.2.kd,q.2.s⟩:Jk)=p.2.key from e))
 refine⟨rfl,rfl,⟨h.ok,h.fits,d,⟨h.tie.hc,h.tie.now,h.tie.gone,h.tie.pub,h.tie.inv.act h.ok h.fits h.sok (by have:=h.len;omega) u⟩,?_,fun q a=>?_,?_,h.epo,h.ghas,h.ng,h.np,h.full,h.comp.more (fun k l=>l)⟩⟩
 ·exact xB.taken (t:=⟨ep,m.num+1⟩) h.sok.ok h.tsk d.ok.jobs o n (fun q=>QK b q) v
 ·rcases(QK b q).1 a with rfl|a
  ·exact f.1
  ·exact h.slot q a
 ·show r.picks+1=m.num+1
  rw[h.picks]
theorem yh.fail_no(h:yh c ep m r){e n:Int}(a:zD m.QL ⟨e,n⟩=none):r.fail e n=(r,8):=by
 unfold RM.fail
 rw[Vp h.sok.ok h.tsk h.slot e n a]
theorem yh.commit_no(h:yh c ep m r){e n:Int}(a:zD m.QL ⟨e,n⟩=none):r.commit e n=(r,8):=by
 unfold RM.commit
 rw[Vp h.sok.ok h.tsk h.slot e n a]
theorem yh.fail(h:yh c ep m r){e n:Int}{g:Lse}(b:zD m.QL ⟨e,n⟩=J g){x:Tsk}(d:zD m.TL g.job=J x):(r.fail e n).2=0/\yh c ep {m with TL:=xZ m.TL g.job (x.failed m.now),QL:=xa m.QL ⟨e,n⟩} (r.fail e n).1:=by
 obtain⟨f,i,j⟩:=zhK h.sok.ok h.tsk h.tie.now h.slot e n b d
 refine⟨f,?_⟩
 have a:yL c ep m r.nu {m with TL:=xZ m.TL g.job (x.failed m.now),QL:=xa m.QL ⟨e,n⟩} r.nu:=.failed m r.nu ⟨e,n⟩ g x b d
 rw[i]
 refine⟨h.ok,h.fits,a.ok h.ok h.fits h.sok,⟨h.tie.hc,h.tie.now,h.tie.gone,h.tie.pub,h.tie.inv.act h.ok h.fits h.sok (by have:=h.len;omega) a⟩,j,fun q o=>h.slot q (zT.1 o).1,h.picks,h.epo,h.ghas,h.ng,h.np,h.full,h.comp.more (fun k l=>zY.2 (.inl l))⟩
end
theorem zpw{a b j:Nat}(d:a=b+2)(c:a<=j)(e:foot (b+1) (.slice none 0 0) j):False:=by
 rcases e with e|e
 ·omega
 ·cases e
theorem zdM{α β:Type}{f g:β->α->β}:∀(l:List α) (b:β),(∀b a,a∈l->f b a=g b a)->l.foldl f b=l.foldl g b
 |[],b,_=>rfl
 |a::l,b,h=>by
  rw[List.foldl_cons,List.foldl_cons,h b a (by simp)]
  exact zdM l _ (fun b x c=>h b x (by simp[c]))
theorem jQ(kind:Int)(s:Sg)(P:Tk->Bool):∀(l:List Tk) (t:Tk),(∀x∈l,P x=false->¬(x.kind=kind/\x.s=s))->(l.filter P).foldl (kE kind s) t=l.foldl (kE kind s) t
 |[],t,_=>rfl
 |x::l,t,h=>by
  have a:=fun t=>jQ kind s P l t (fun y c=>h y (by simp[c]))
  rw[List.filter_cons,List.foldl_cons]
  cases b:P x with
  |true=>rw[if_pos rfl,List.foldl_cons];exact a _
  |false=>
   rw[if_neg (by decide),a]
   have e:kE kind s t x=t:=by unfold kE;rw[if_neg (h x (by simp) b)]
   rw[e]
theorem QW(r:RM)(kd:Int)(s:Sg)(f:vk r kd s (xb r.c r.nu)=false):{r with td:=r.td.filter (fun t=>!decide (t.kind=kd/\t.s=s))}.settled.td=r.settled.td:=by
 show ZB {r with td:=r.td.filter (fun t=>!decide (t.kind=kd/\t.s=s))} (xb r.c r.nu) (xb r.c r.nu).length=ZB r (xb r.c r.nu) (xb r.c r.nu).length
 unfold ZB
 refine zdM _ _ (fun out a k=>?_)
 have d:∀(kind:Int) (o:List Tk),vT {r with td:=r.td.filter (fun t=>!decide (t.kind=kd/\t.s=s))} (xb r.c r.nu) kind o a=vT r (xb r.c r.nu) kind o a:=fun kind o=>by
  unfold vT
  have g:vk {r with td:=r.td.filter (fun t=>!decide (t.kind=kd/\t.s=s))} kind a (xb r.c r.nu)=vk r kind a (xb r.c r.nu):=rfl
  rw[g]
  by_cases b:vk r kind a (xb r.c r.nu)=true
  ·rw[if_pos b,if_pos b]
   have h:yy {r with td:=r.td.filter (fun t=>!decide (t.kind=kd/\t.s=s))} kind a=yy r kind a:=by
    unfold yy
    refine jQ kind a _ r.td _ (fun x l e=>?_)
    simp only[Bool.not_eq_false',decide_eq_true_eq]at e
    rintro⟨i,j⟩
    rw[<-i,<-j,e.1,e.2,f]at b
    cases b
   rw[h]
  ·rw[if_neg b,if_neg b]
 rw[d,d]
section
variable {c:Cf} {ep:Int} {m:MS} {r:RM}
theorem xB.dropped{l:List Tk}(i:MOk c ep m)(h:xB m.TL m.QL l){t:Tok}{g:Lse}(w:zD m.QL t=J g){x:Tsk}(E:zD m.TL g.job=J x):xB (xa m.TL g.job) (xa m.QL t) (l.filter (fun k=>!decide (k.kind=x.kd/\k.s=x.s))):=by
 obtain⟨G,v,D,rfl⟩:=h
 have f:g.job=x.key:=(i.td _ (zB E)).key
 have A:=zB w
 have d:∀z:Tsk,(z.kd=x.kd/\z.s=x.s)↔z.key=x.key:=fun z=>by
  unfold Tsk.key
  constructor
  ·rintro⟨a,b⟩;rw[a,b]
  ·intro e;injection e with a b;exact⟨a,b⟩
 refine⟨G.filter (fun z=>!decide (z.kd=x.kd/\z.s=x.s)),?_,D.filter _,?_⟩
 ·have e:(xa m.TL g.job).map (·.2)=(m.TL.map (·.2)).filter (fun z=>!decide (z.kd=x.kd/\z.s=x.s)):=by
   unfold xa
   rw[List.filter_map]
   refine congrArg (List.map _) (List.filter_congr (fun p C=>?_))
   have j:=(i.td p C).key
   dsimp only[Function.comp]
   rw[f]
   by_cases e:p.1=x.key
   ·have r:p.2.kd=x.kd/\p.2.s=x.s:=(d p.2).2 (by rw[<-j];exact e)
    simp[e,r]
   ·have r:¬(p.2.kd=x.kd/\p.2.s=x.s):=fun h=>e (by rw[j];exact(d p.2).1 h)
    simp only[e,r,decide_false,Bool.not_false,ne_eq,not_false_eq_true,decide_true]
  rw[e]
  exact v.filter _
 ·rw[List.filter_map]
  have y:((fun k:Tk=>!decide (k.kind=x.kd/\k.s=x.s))∘yU m.QL)=fun z=>!decide (z.kd=x.kd/\z.s=x.s):=rfl
  rw[y]
  refine List.map_congr_left (fun z F=>?_)
  have u:z.key≠x.key:=fun e=>by
   have:=(List.mem_filter.1 F).2
   rw[decide_eq_true ((d z).2 e)]at this
   cases this
  refine jw (Qo i.jobs (Zu i.jobs t) (fun q B=>?_))
  rw[zT]
  constructor
  ·refine fun o=>⟨o,fun e=>u ?_⟩
   have n:zD m.QL q.1=J q.2:=xp i.nq o
   rw[e,w]at n
   injection n with n
   rw[<-B,<-n,f]
  ·exact fun o=>o.1
theorem yh.roll(h:yh c ep m r){e n:Int}{g:Lse}{s:Sg}{se ti rest:Int}{k:Nat}(y:zD m.QL ⟨e,n⟩=J g)(w:zD m.TL g.job=J ⟨true,s,se,ti,rest⟩)(I:s.t=k){f:List (Jk×Tsk)}
  (D:xA c {m with L:=qT m.L s ⟨3,xv (xo c m.L s.sr s.wn k)⟩,Gl:=m.Gl,TL:=xa m.TL g.job,QL:=xa m.QL ⟨e,n⟩} f):
  (r.commit e n).2=0/\yh c ep {m with L:=qT m.L s ⟨3,xv (xo c m.L s.sr s.wn k)⟩,Gl:=m.Gl,TL:=f,QL:=xa m.QL ⟨e,n⟩} (r.commit e n).1:=by
 obtain⟨j,N,O⟩:=Qr h.sok.ok h.tsk h.slot e n y w
 have P:r.commit e n=({r with pub:=r.pub++[s]}.settled,0):=by
  unfold RM.commit
  rw[N]
  simp only[O,Option.getD_some]
  unfold RM.done
  rw[if_pos (show(yU m.QL ⟨true,s,se,ti,rest⟩).kind=1 from rfl)]
  rfl
 rw[P]
 refine⟨rfl,?_⟩
 have u:=h.sok.ok
 have K:=u.td _ (zB w)
 have l:s∈zn m.L:=K.mem
 have E:(stL m.L s).st=2:=K.roll rfl
 have B:=(u.rolled y w rfl (xv (xo c m.L s.sr s.wn k))).1
 have z:=h.tie.inv.rolled h.ok h.fits u (by have:=h.len;omega) w I (xa m.QL ⟨e,n⟩)
 have p:¬s∈r.pub:=fun R=>by
  rcases h.inPub.1 R with⟨v,hv,d⟩|⟨-,d⟩
  ·rw[jD u.seg.nl (zU l) hv]at E;omega
  ·exact u.seg.disj _ (zU l) d
 have o:∀i,Qt i (r.pub++[s])=true↔Pub (qT m.L s ⟨3,xv (xo c m.L s.sr s.wn k)⟩) i\/(0<=i.t/\i∈zj m.Gl):=fun i=>by
  have:Qt i (r.pub++[s])=true↔i∈r.pub\/i=s:=by unfold Qt;simp
  rw[this,h.inPub]
  constructor
  ·rintro((⟨v,hv,d⟩|d)|rfl)
   ·by_cases e:i=s
    ·rw[e];exact .inl ⟨_,JI,rfl⟩
    ·exact .inl ⟨v,JJ hv e,d⟩
   ·exact .inr d
   ·exact .inl ⟨_,JI,rfl⟩
  ·rintro(⟨v,hv,d⟩|d)
   ·rcases qr hv with e|⟨hv,-⟩
    ·injection e with M S;exact .inr M
    ·exact .inl (.inl ⟨v,hv,d⟩)
   ·exact .inl (.inr d)
 have F:zdv c {m with L:=qT m.L s ⟨3,xv (xo c m.L s.sr s.wn k)⟩,Gl:=m.Gl,TL:=xa m.TL g.job,QL:=xa m.QL ⟨e,n⟩} {r with pub:=r.pub++[s],td:=r.td.filter (fun t=>!decide (t.kind=(1:Int)/\t.s=s))}:=⟨h.tie.hc,h.tie.now,h.tie.gone,o,z⟩
 have A:xB (xa m.TL g.job) (xa m.QL ⟨e,n⟩) (r.td.filter (fun t=>!decide (t.kind=(1:Int)/\t.s=s))):=h.tsk.dropped u y w
 have x:=ZC h.ok h.fits B F A D
 rw[show({r with pub:=r.pub++[s],td:=r.td.filter (fun t=>!decide (t.kind=(1:Int)/\t.s=s))}:RM).settled.td=({r with pub:=r.pub++[s]}:RM).settled.td from QW {r with pub:=r.pub++[s]} 1 s (by
  unfold vk
  rw[if_pos rfl]
  unfold Kr Ji
  have:Qt s ({r with pub:=r.pub++[s]}:RM).pub=true:=zaZ (by simp)
  rw[this];simp)]at x
 have G:yL c ep m r.nu {m with L:=qT m.L s ⟨3,xv (xo c m.L s.sr s.wn k)⟩,Gl:=m.Gl,TL:=f,QL:=xa m.QL ⟨e,n⟩} r.nu:=.rolled m r.nu ⟨e,n⟩ g s se ti rest k f y w I D
 refine⟨h.ok,h.fits,G.ok h.ok h.fits h.sok,⟨h.tie.hc,h.tie.now,h.tie.gone,o,h.tie.inv.act h.ok h.fits h.sok (by have:=h.len;omega) G⟩,x,fun q Q=>h.slot q (zT.1 Q).1,h.picks,h.epo,h.ghas,h.ng,?_,h.full,X8.of D⟩
 show(r.pub++[s]).Nodup
 rw[List.nodup_append]
 exact⟨h.np,by simp,fun a C b H e=>by simp at H;subst H;subst e;exact p C⟩
theorem yh.reclaim(h:yh c ep m r){e n:Int}{g:Lse}{s:Sg}{se ti rest:Int}(z:zD m.QL ⟨e,n⟩=J g)(w:zD m.TL g.job=J ⟨false,s,se,ti,rest⟩){k:List (Jk×Tsk)}
  (H:xA c {m with L:=xa m.L s,Gl:=xZ m.Gl s (),TL:=xa m.TL g.job,QL:=xa m.QL ⟨e,n⟩} k):
  (r.commit e n).2=0/\yh c ep {m with L:=xa m.L s,Gl:=xZ m.Gl s (),TL:=k,QL:=xa m.QL ⟨e,n⟩} (r.commit e n).1:=by
 obtain⟨j,P,Q⟩:=Qr h.sok.ok h.tsk h.slot e n z w
 have R:r.commit e n=({r with gone:=r.gone++[s]}.settled,0):=by
  unfold RM.commit
  rw[P]
  simp only[Q,Option.getD_some]
  unfold RM.done
  rw[if_neg (by show¬((2:Int)=1);decide)]
  rfl
 rw[R]
 refine⟨rfl,?_⟩
 have o:=h.sok.ok
 have O:=o.td _ (zB w)
 have f:s∈zn m.L:=O.mem
 have I:(stL m.L s).st≠2:=O.recl rfl
 have F:=(o.reclaimed z w rfl).1
 have C:=h.tie.inv.reclaimed h.ok h.fits o w (xa m.QL ⟨e,n⟩)
 have B:¬s∈r.gone:=fun T=>o.seg.disj _ (zU f) (h.inGl.1 T)
 have i:∀d,Qt d (r.gone++[s])=true↔d∈zj (xZ m.Gl s ()):=fun d=>by
  have:Qt d (r.gone++[s])=true↔d∈r.gone\/d=s:=by unfold Qt;simp
  rw[this,h.inGl,zY]
 have p:∀d,Qt d r.pub=true↔Pub (xa m.L s) d\/(0<=d.t/\d∈zj (xZ m.Gl s ())):=fun d=>by
  rw[h.tie.pub,zY]
  constructor
  ·rintro(⟨v,hv,l⟩|⟨l,x⟩)
   ·by_cases e:d=s
    ·refine .inr ⟨?_,.inr e⟩
     have D:=o.seg.inr _ hv
     by_cases U:d.t= -1
     ·have:=(o.seg.raw _ hv U).1
      dsimp only at this;omega
     ·have:=D.2.1
      dsimp only at this;omega
    ·exact .inl ⟨v,zT.2 ⟨hv,e⟩,l⟩
   ·exact .inr ⟨l,.inl x⟩
  ·rintro(⟨v,hv,l⟩|⟨l,x|x⟩)
   ·exact .inl ⟨v,(zT.1 hv).1,l⟩
   ·exact .inr ⟨l,x⟩
   ·left
    rw[x]at l ⊢
    rcases o.seg.tier _ (zU f) l with A|A
    ·exact absurd A I
    ·exact⟨_,zU f,A⟩
 have K:zdv c {m with L:=xa m.L s,Gl:=xZ m.Gl s (),TL:=xa m.TL g.job,QL:=xa m.QL ⟨e,n⟩} {r with gone:=r.gone++[s],td:=r.td.filter (fun t=>!decide (t.kind=(2:Int)/\t.s=s))}:=⟨h.tie.hc,h.tie.now,i,p,C⟩
 have E:xB (xa m.TL g.job) (xa m.QL ⟨e,n⟩) (r.td.filter (fun t=>!decide (t.kind=(2:Int)/\t.s=s))):=h.tsk.dropped o z w
 have y:=ZC h.ok h.fits F K E H
 rw[show({r with gone:=r.gone++[s],td:=r.td.filter (fun t=>!decide (t.kind=(2:Int)/\t.s=s))}:RM).settled.td=({r with gone:=r.gone++[s]}:RM).settled.td from QW {r with gone:=r.gone++[s]} 2 s (by
  unfold vk
  rw[if_neg (by decide)]
  unfold Ks Xg
  have:Qt s ({r with gone:=r.gone++[s]}:RM).gone=true:=zaZ (by simp)
  rw[this];simp)]at y
 have M:yL c ep m r.nu {m with L:=xa m.L s,Gl:=xZ m.Gl s (),TL:=k,QL:=xa m.QL ⟨e,n⟩} r.nu:=.reclaimed m r.nu ⟨e,n⟩ g s se ti rest k z w H
 refine⟨h.ok,h.fits,M.ok h.ok h.fits h.sok,⟨h.tie.hc,h.tie.now,i,p,h.tie.inv.act h.ok h.fits h.sok (by have:=h.len;omega) M⟩,y,fun q S=>h.slot q (zT.1 S).1,h.picks,h.epo,fun d u=>?_,?_,h.np,h.full,X8.of H⟩
 ·rcases zY.1 u with u|rfl
  ·exact h.ghas d u
  ·exact h.tie.inv.has _ f
 ·show(r.gone++[s]).Nodup
  rw[List.nodup_append]
  exact⟨h.ng,by simp,fun a G b N e=>by simp at N;subst N;subst e;exact B G⟩
theorem yh.new(a:c.ok)(b:c.fits):yh c ep ⟨0,[],[],0,[],[]⟩ ⟨c,0,[],[],[],[],ep,0⟩:=by
 refine⟨a,b,SOk.new a,⟨rfl,rfl,fun s=>by simp[Qt,zj],fun s=>by simp[Qt,zj,Pub],ZI.start c 0⟩,⟨[],by simp,by simp,rfl⟩,by simp,rfl,rfl,by simp[zj],by simp,by simp,fun T=>by simp[qW],⟨[],fun x=>by simp[zj,zn],by simp[zn],by simp[zn]⟩⟩
end
def jy(c:Cf)(ep:Int)(f:RM->RM)(m m':MS):Prop:=∀r,yh c ep m r->yh c ep m' (f r)
noncomputable def znE (c:Cf) (now b:Int):Int:=if now-pkV b (c.la+1)<0 then 0 else now-pkV b (c.la+1)
noncomputable def zhS (c:Cf) (a b v:Int) (r:RM):RM:=(r.ingest (pkV a 4) (znE c r.now b) v).1
def zbO(n:Int)(r:RM):RM:=(r.tickL n).1
def Q8(slot:Int)(r:RM):RM:=(r.pick slot).1
def Jc(kd ep n:Int)(r:RM):RM:=if kd=5 then(r.fail ep n).1 else(r.commit ep n).1
noncomputable def XJ (ep kd a:Int) (r:RM):RM:=if r.picks=0 then r else Jc kd ep (r.picks-pkV a r.picks) r
noncomputable def zau (c:Cf) (ep a:Int) (r:RM):RM:=if(Q8 (pkV a c.s) r).picks=r.picks then Q8 (pkV a c.s) r else XJ ep 4 0 (Q8 (pkV a c.s) r)
noncomputable def zik (c:Cf) (ep kd a b v:Int) (r:RM):RM:=
 if kd=1 then zhS c a b v r else if kd=2 then zbO (1+pkV a 1000) r else if kd=3 then Q8 (pkV a c.s) r else if kd=4\/kd=5 then XJ ep kd a r else if kd=6 then zau c ep a r else r
section
variable {c:Cf} {ep:Int} {m m' m2:MS}
theorem zgS:jy c ep (fun r=>r) m m:=fun _ h=>h
theorem zgP{a b v tm:Int}(d:znE c m.now b=tm)(f:0<=pkV a 4/\pkV a 4<4)(g:0<=tm/\tm<=m.now)(i:m.now-c.la<=tm)(hv: -2147483648<=v/\v<=2147483647)(j:zJ m.L+(1+2*qO c m.L ⟨pkV a 4,tm,v⟩ c.n)<=c.qu):jy c ep (zhS c a b v) m {m with L:=yu c m.L ⟨pkV a 4,tm,v⟩}:=fun r h=>by
 have e:=(h.ingest (pkV a 4) tm v hv).2
 rw[show ye c m (pkV a 4) tm v=({m with L:=yu c m.L ⟨pkV a 4,tm,v⟩},0)from by unfold ye;rw[if_neg (by omega),if_neg (by omega),if_neg (by omega),if_neg (by omega)]]at e
 unfold zhS
 rw[h.tie.now,d]
 exact e
theorem zan{a b v tm:Int}(d:znE c m.now b=tm)(g:0<=pkV a 4/\pkV a 4<4)(i:0<=tm/\tm<=m.now)(j:m.now-c.la<=tm)(hv: -2147483648<=v/\v<=2147483647)(f:c.qu<zJ m.L+(1+2*qO c m.L ⟨pkV a 4,tm,v⟩ c.n)):jy c ep (zhS c a b v) m m:=fun r h=>by
 have e:=(h.ingest (pkV a 4) tm v hv).2
 rw[show ye c m (pkV a 4) tm v=(m,4)from by unfold ye;rw[if_neg (by omega),if_neg (by omega),if_neg (by omega),if_pos f]]at e
 unfold zhS
 rw[h.tie.now,d]
 exact e
theorem zgN{n:Int}(a:100000<m.now+n):jy c ep (zbO n) m m:=fun r h=>by
 unfold zbO;rw[h.tick_bad (.inr (.inr a))];exact h
theorem zgT{n:Int}(hn:1<=n/\n<=1000)(e:m.now+n<=100000){d b:List (Jk×Tsk)}{a:List (Tok×Lse)}(f:zag (m.now+n) m.TL m.QL d a)(i:∀p∈a,m.now+n<p.2.til)(g:xA c {m with now:=m.now+n,TL:=d,QL:=a} b):jy c ep (zbO n) m {m with now:=m.now+n,TL:=b,QL:=a}:=fun r h=>(h.tick hn e f i g).2
theorem zgO{kd n:Int}(a:zD m.QL ⟨ep,n⟩=none):jy c ep (Jc kd ep n) m m:=fun r h=>by
 unfold Jc
 split
 ·rw[h.fail_no a];exact h
 ·rw[h.commit_no a];exact h
theorem zgM{kd n:Int}(a:kd=5){g:Lse}(b:zD m.QL ⟨ep,n⟩=J g){x:Tsk}(d:zD m.TL g.job=J x):jy c ep (Jc kd ep n) m {m with TL:=xZ m.TL g.job (x.failed m.now),QL:=xa m.QL ⟨ep,n⟩}:=fun r h=>by
 unfold Jc;rw[if_pos a];exact(h.fail b d).2
theorem zgR{kd n:Int}(b:¬kd=5){g:Lse}{s:Sg}{se ti rest:Int}{k:Nat}(d:zD m.QL ⟨ep,n⟩=J g)(i:zD m.TL g.job=J ⟨true,s,se,ti,rest⟩)(e:s.t=k){a:List (Jk×Tsk)}(f:xA c {m with L:=qT m.L s ⟨3,xv (xo c m.L s.sr s.wn k)⟩,Gl:=m.Gl,TL:=xa m.TL g.job,QL:=xa m.QL ⟨ep,n⟩} a):jy c ep (Jc kd ep n) m {m with L:=qT m.L s ⟨3,xv (xo c m.L s.sr s.wn k)⟩,Gl:=m.Gl,TL:=a,QL:=xa m.QL ⟨ep,n⟩}:=fun r h=>by
 unfold Jc;rw[if_neg b];exact(h.roll d i e f).2
theorem zgQ{kd n:Int}(b:¬kd=5){g:Lse}{s:Sg}{se ti rest:Int}(d:zD m.QL ⟨ep,n⟩=J g)(f:zD m.TL g.job=J ⟨false,s,se,ti,rest⟩){a:List (Jk×Tsk)}(e:xA c {m with L:=xa m.L s,Gl:=xZ m.Gl s (),TL:=xa m.TL g.job,QL:=xa m.QL ⟨ep,n⟩} a):jy c ep (Jc kd ep n) m {m with L:=xa m.L s,Gl:=xZ m.Gl s (),TL:=a,QL:=xa m.QL ⟨ep,n⟩}:=fun r h=>by
 unfold Jc;rw[if_neg b];exact(h.reclaim d f e).2
theorem zgL{kd a:Int}{k i:Nat}(e:m.num=k)(f:¬k=0)(g:(k:Int)-1-pkV a k=i)(h:jy c ep (Jc kd ep ((i:Int)+1)) m m'):jy c ep (XJ ep kd a) m m':=fun r b=>by
 have d:=h r b
 unfold XJ
 rw[b.picks,e,if_neg (by omega),show(k:Int)-pkV a k=(i:Int)+1 by omega]
 exact d
theorem zeF{kd a:Int}(d:m.num=(0:Nat)):jy c ep (XJ ep kd a) m m:=fun r b=>by
 unfold XJ
 rw[b.picks,d,if_pos (by rfl)]
 exact b
theorem zeE{a:Int}(h:jy c ep (Q8 (pkV a c.s)) m m')(hn:m'.num=m.num):jy c ep (zau c ep a) m m':=fun r d=>by
 have b:=h r d
 unfold zau
 rw[if_pos (by rw[b.picks,d.picks,hn])]
 exact b
theorem zgK{a:Int}(h:jy c ep (Q8 (pkV a c.s)) m m')(hn:¬m'.num=m.num)(e:jy c ep (XJ ep 4 0) m' m2):jy c ep (zau c ep a) m m2:=fun r d=>by
 have b:=h r d
 unfold zau
 rw[if_neg (by rw[b.picks,d.picks];exact hn)]
 exact e _ b
end
noncomputable def zfF (c:Cf) (ep:Int) (G:Nat->Y9):Nat->RM
 |0=>⟨c,0,[],[],[],[],ep,0⟩
 |t+1=>zik c ep (G t).kd (G t).a (G t).b (G t).v (zfF c ep G t)
def zpv(C:Cf)(w:World)(e:Ending)(w':World):Prop:=∃(c:Cf) (p:Nat),c=C/\xW c.s c.le c.la c.wi c.ke c.qu c.n c.F c.W c.K=true/\c.fits/\e=.returned (O p)/\ZJ w' w.1.size p c 1 ⟨0,[],[],0,[],[]⟩ [] 0/\Below w.1.size w w'
def zoU(ns:List Nm):Prop:=∀x∈ns,(0<=x.sr/\x.sr<4)/\0<=x.tm/\x.tm<=100000
theorem zoU.act{c:Cf}{ep:Int}{m m':MS}{ns d:List Nm}{k:Nat}(h:zoU ns)(v:SOk c ep m k)(s:yL c ep m ns m' d):zoU d:=by
 cases s with
 |added x q r z A B=>
  intro y b
  rcases List.mem_append.1 b with b|b
  ·exact h y b
  ·rw[List.mem_singleton.1 b]
   have:=v.ok.now
   exact⟨q,r.1,by omega⟩
 |same=>exact h
 |ticked n o a l hn i C E e=>exact h
 |taken p slot e u=>exact h
 |failed t g x f j=>exact h
 |rolled t g w se ti rest k a f j D e=>exact h
 |reclaimed t g w se ti rest a f j e=>exact h
def zpy(C:Cf)(G:Nat->Y9)(w:World)(a:Nat)(e:Ending)(w':World):Prop:=∃(c:Cf) (p B:Nat) (m:MS) (ns:List Nm),c=C/\xW c.s c.le c.la c.wi c.ke c.qu c.n c.F c.W c.K=true/\c.fits/\e=.returned (O p)/\w.1.size<=B/\ZJ w' B p c 1 m ns a/\yh c 1 m (zfF c 1 G a)/\zoU ns/\Below w.1.size w w'
theorem zbC{w:World}{p g:Nat}{i:List Int}{k:Nat}(h:Ya w p g i k)(c:Cf)(d:c.ok)(a:Option Addr)(cap:Nat)(x:SX)(b:rdX c x)(f:∀j n,(ZA x)[j]?=J n->i[k+j]?=J n):
  Calls Tryz.prog 201 #[(O p),(cZz c a cap)] w fun e w'=>e=.returned (.agg (xZz x))/\Ya w' p g i (k+(ZA x).length)/\zh (fun q=>q=p) w w':=by
 have m:=b.st
 have l:x.2.st=1\/x.2.st=2\/x.2.st=3\/x.2.st=4:=by omega
 rcases l with e|e|e|e
 ·exact zgg h c d a cap x b e f
 ·exact zgh h c d a cap x b e f
 ·exact zgi h c d a cap x b e f
 ·exact zgj h c d a cap x b e f
theorem Yx{V:World}{g k j:Nat}{a b c d:Value}(h:¬k=g):((((V.setCell (U g 0) a).setCell (U g 1) b).setCell (U g 2) c).setCell (U g 3) d).cell? (U k j)=V.cell? (U k j):=(zt h).trans ((zt h).trans ((zt h).trans (zt h)))
theorem zhl{B:Nat}{w V:World}{g:Nat}(h:Below B w V)(e:B<=g)(a b c d:Value):Below B w ((((V.setCell (U g 0) a).setCell (U g 1) b).setCell (U g 2) c).setCell (U g 3) d):=(((h.setCell (p:=(U g 0)) e a).setCell (p:=(U g 1)) e b).setCell (p:=(U g 2)) e c).setCell (p:=(U g 3)) e d
end Go.Proofs.YtndhpgciopcncaaGreatDoor
