import Derived.Test.YtndhpgciopcncaaGreatDoorPMlo0
open Nat renaming lt_of_lt_of_le → J
open Go.RowKit renaming Below → K
open Go.RowKit.Below renaming refl → E
open Option renaming some → Q
open Nat renaming le_refl → Z
open Go renaming World → S
set_option linter.unusedVariables false
set_option maxRecDepth 20000
set_option maxHeartbeats 20000000
open Go.Proofs.Tryz
namespace Go.Proofs.YtndhpgciopcncaaGreatDoor
open Go.ChangeMaps (setBlock)
open Go.RowKit Go.Maps Go.Shelf
theorem zmk{w:S}{i:Ids}{c:Cf}{ep:Int}{m:MS}{q:JM}(h:zQ w i c ep m q)(now:Int)(xs:List SX)(H:∀x∈xs,x.1.wf)(a7:m.Gl.length+xs.length<=1000000000)(a8:m.L.length+xs.length<=1000000000)(base:Nat)(v:Value)(hv:vW w base v xs):
  Calls prog 109 #[(O i.x),.agg #[I now,v]] w fun e w'=>e=.returned (.tuple #[])/\zQ w' i c ep (m.took now xs) q/\Kx i w w'/\w'.1[i.d]?=w.1[i.d]?:=by
 obtain⟨ad,cap,rfl⟩:=hv.slice
 obtain⟨p,n⟩:=h.setNow now
 have y:(w.setCell (U i.x 8) (I now)).1.size=w.1.size:=by simp
 obtain⟨Y,j⟩:∃Y,(w.setCell (U i.x 8) (I now)).alloc (.cells #[I now,.slice ad xs.length cap] 190)=Y:=⟨_,rfl⟩
 have g:K (w.setCell (U i.x 8) (I now)).1.size (w.setCell (U i.x 8) (I now)) Y:=by rw[<-j];exact(E _ _).alloc (Z _) _
 have r:Y.1[w.1.size]?=Q (.cells #[I now,.slice ad xs.length cap] 190 (0,0)):=by rw[<-j,<-y];exact zp _ _
 have f:=p.later g
 have o:=n.trans (Kx.below g p.dlt)
 have ae:¬w.1.size=i.x:=by have:=h.lt;omega
 have a9:¬i.x=w.1.size:=by have:=h.lt;omega
 have af:=h.lt
 obtain⟨-,-,-,-,-,-,-,-,x8,-⟩:=zc h.head
 have xf:=zv h.head 8
 obtain⟨-,y1,-⟩:=zc r
 obtain⟨-,-,-,-,-,-,-,-,-,y9,-⟩:=zc f.head
 have t:zh (fun k=>k=i.x) w (w.setCell (U i.x 8) (I now)):=zg (zh.refl _ _) rfl
 have G:vW Y base (.slice ad xs.length cap) xs:=zR (zi hv t (fun k hk e=>by
  obtain⟨ab,hc⟩:=zH hv hk
  rw[e]at hc
  exact absurd (jM h.head hc) (by decide))) g
 have HP:=fun W (hW:K Y.1.size Y W)=>ze (zec (f.later hW).set xs H a7 a8 base _ (zR G hW))
 have a4:=HP Y (E _ _)
 have a5:=HP Y.drew (E _ _).drew
 have a2:=ze f
 have a3:=ze (f.later (w':=Y.drew) (E _ _).drew)
 have a0:=ze o
 have a1:=ze (o.trans (Kx.below (w':=Y.drew) (E _ _).drew f.dlt))
 have aa:=ze f.foot_lt
 have N:¬i.x=i.lb:=fun e=>f.x_set i.lb (.inr (.inr (.inl rfl))) e.symm
 have P:¬i.x=i.gb:=fun e=>f.x_set i.gb (.inr (.inr (.inr rfl))) e.symm
 have R:¬w.1.size=i.lb:=fun e=>by have:=h.foot_lt i.lb (.inl (.inr (.inl (.inr (.inr (.inl rfl))))));omega
 have T:¬w.1.size=i.gb:=fun e=>by have:=h.foot_lt i.gb (.inl (.inr (.inl (.inr (.inr (.inr rfl))))));omega
 have lY:w.1.size<Y.1.size:=zd r
 have M:=f.lt
 have a6:=ze j
 obtain⟨ac,l⟩:=h.jrn
 have u:=h.jo l i.d (.inr (.inl rfl))
 have F:¬i.d=i.x:=fun e=>u (.inl e)
 have D:¬(i.d=i.lb\/i.d=i.gb):=fun e=>u (.inr (.inl (e.elim (fun e=> .inr (.inr (.inl e))) (fun e=> .inr (.inr (.inr e))))))
 have C:Hid (Y.1[i.d]?=w.1[i.d]?):=by
  have h1:=t.block i.d l.disk.lt F
  exact(g.block i.d (by rw[y];exact l.disk.lt)).trans h1
 have B:Hid (i.d<Y.1.size):=f.dlt
 have z:=ze D
 clear u F D l
 clear h f p o n g r j t G hv HP H y
 go_enter func109,ntmps109
 go_wp2_with fail
 rw[ud a6]
 go_region_held3 (fun w'=>w'.cell? (U i.x 9)=Q (O i.s)/\w'.cell? (U w.1.size 1)=Q (.slice ad xs.length cap)) (go_keep) (first
  |(go_at_call 170;(with_reducible refine(ud a4).mono ?_);rintro e V ⟨rfl,b,a⟩;have A:Hid (V.1[i.d]?=w.1[i.d]?):=(a.block _ (ud B) (ud z)).trans (ud C);have v9:=(zM (i:=9) a (fun e=>e.elim N P) M).trans y9;have v1:=(zM (i:=1) a (fun e=>e.elim R T) lY).trans y1;have X:=ze ((ud a2).putSet b (a.mono (fun k _ e=>e.elim (fun e=> .inr (.inr (.inl e))) (fun e=> .inr (.inr (.inr e))))));have HK:=ze ((ud a0).trans (ud X).2);clear b a)
  |(go_at_call 170;(with_reducible refine(ud a5).mono ?_);rintro e V ⟨rfl,b,a⟩;have A:Hid (V.1[i.d]?=w.1[i.d]?):=(a.block _ (ud B) (ud z)).trans (ud C);have v9:=(zM (i:=9) a (fun e=>e.elim N P) M).trans y9;have v1:=(zM (i:=1) a (fun e=>e.elim R T) lY).trans y1;have X:=ze ((ud a3).putSet b (a.mono (fun k _ e=>e.elim (fun e=> .inr (.inr (.inl e))) (fun e=> .inr (.inr (.inr e))))));have HK:=ze ((ud a1).trans (ud X).2);clear b a))
 all_goals go_wp2_with fail
 all_goals go_end0
 all_goals exact⟨rfl,(ud X).1,ud HK,ud A⟩
theorem zeT{dn:Bool}{w:S}{i:Ids}{c:Cf}{ep:Int}{m:MS}(h:xG dn w i c ep m)(t:Tok)(F:t.wf)(p:zD m.QL t=none):
  Calls prog 20 #[(O i.x),.agg #[I t.ep,I t.num]] w fun e w'=>e=.returned (I 8)/\Below w.1.size w w':=by
 have a:K w.1.size w (w.alloc (.cells #[I t.ep,I t.num] 49)):=(E _ _).alloc (Z _) _
 have v:=zp w (.cells #[I t.ep,I t.num] 49)
 have A:=zN w (.cells #[I t.ep,I t.num] 49)
 have l:=h.later a
 obtain⟨-,-,-,-,-,-,-,-,M,-,B⟩:=l.cells
 have G:=l.lt
 have D:=zd v
 obtain⟨P,R,-⟩:=zc v
 have g:(⟨(yP (zD m.QL t)).kd,(yP (zD m.QL t)).s⟩:Jk).wf:=by rw[p];refine⟨?_,?_,?_,?_⟩<;>(unfold xg yP;simp)
 have j:=fun W C=>ze (jC ((h.later (w':=W) C).board) t F g)
 simp only[p,Option.isSome_none]at j
 generalize zmG (zD m.TL ⟨(yP none).kd,(yP none).s⟩)=L at j
 have d:=ze a
 have y:=ze A
 clear h l a v A g p
 go_enter func20,ntmps20
 go_wp2_with fail
 have T:w.1.size<w.1.size+1:=by omega
 have U:i.x<w.1.size+1:=by have:=ud y;omega
 generalize(w.alloc (.cells #[I t.ep,I t.num] 49))=X at*
 generalize z:w.1.size+1=N at*
 have r:Nonempty (xc N X):=xc.some _ _
 have q:=fun(u:xc N X) b o h=>u.cell b o h
 have f:N<=X.1.size:=by rw[ud y];exact Z _
 have k:=ze f
 have e:Hid (w.1.size<=N):=by show w.1.size<=N;omega
 have H:=ze z
 clear f z
 refine zx N (by kernel_rfl) (by kernel_rfl) ?_
 repeat(go_big_quiet_step (first
  |(go_at_call 51;exact Calls.later (ud k) (ud (j _ ((ud d).trans (Below.mono (Subtype.property _) (ud e))))))))
 refine wpQuiet_nil ?_
 rintro⟨V,n⟩
 clear q r
 dsimp only
 go_wp2_with fail
 go_ret
 exact⟨rfl,(ud d).trans (n.mono (ud e))⟩
theorem zkM{dn:Bool}{w:S}{i:Ids}{c:Cf}{ep:Int}{m:MS}(h:xG dn w i c ep m)(t:Tok)(F:t.wf)(p:zD m.QL t=none):
  Calls prog 21 #[(O i.x),.agg #[I t.ep,I t.num]] w fun e w'=>e=.returned (I 8)/\Below w.1.size w w':=by
 have a:K w.1.size w (w.alloc (.cells #[I t.ep,I t.num] 49)):=(E _ _).alloc (Z _) _
 have v:=zp w (.cells #[I t.ep,I t.num] 49)
 have A:=zN w (.cells #[I t.ep,I t.num] 49)
 have l:=h.later a
 obtain⟨-,-,-,-,-,-,-,-,M,-,B⟩:=l.cells
 have G:=l.lt
 have D:=zd v
 obtain⟨P,R,-⟩:=zc v
 have g:(⟨(yP (zD m.QL t)).kd,(yP (zD m.QL t)).s⟩:Jk).wf:=by rw[p];refine⟨?_,?_,?_,?_⟩<;>(unfold xg yP;simp)
 have j:=fun W C=>ze (jC ((h.later (w':=W) C).board) t F g)
 simp only[p,Option.isSome_none]at j
 generalize zmG (zD m.TL ⟨(yP none).kd,(yP none).s⟩)=L at j
 have d:=ze a
 have y:=ze A
 clear h l a v A g p
 go_enter func21,ntmps21
 go_wp2_with fail
 have T:w.1.size<w.1.size+1:=by omega
 have U:i.x<w.1.size+1:=by have:=ud y;omega
 generalize(w.alloc (.cells #[I t.ep,I t.num] 49))=X at*
 generalize z:w.1.size+1=N at*
 have r:Nonempty (xc N X):=xc.some _ _
 have q:=fun(u:xc N X) b o h=>u.cell b o h
 have f:N<=X.1.size:=by rw[ud y];exact Z _
 have k:=ze f
 have e:Hid (w.1.size<=N):=by show w.1.size<=N;omega
 have H:=ze z
 clear f z
 refine zx N (by kernel_rfl) (by kernel_rfl) ?_
 repeat(go_big_quiet_step (first
  |(go_at_call 51;exact Calls.later (ud k) (ud (j _ ((ud d).trans (Below.mono (Subtype.property _) (ud e))))))))
 refine wpQuiet_nil ?_
 rintro⟨V,n⟩
 clear q r
 dsimp only
 go_wp2_with fail
 go_ret
 exact⟨rfl,(ud d).trans (n.mono (ud e))⟩
theorem zhL{w:S}{i:Ids}{c:Cf}{ep:Int}{m:MS}(h:xG false w i c ep m)(t:Tok)(ht:t.wf){g:Lse}(L:zD m.QL t=Q g)(hj:g.job.wf){x:Tsk}(hx:zD m.TL g.job=Q x)(C:0<=m.now/\m.now<=100000)(a4:0<=x.ti/\x.ti<=1000000)(ab:m.TL.length<=50000):
  Calls prog 21 #[(O i.x),.agg #[I t.ep,I t.num]] w fun e w'=>e=.returned (I 0)/\xG false w' i c ep {m with TL:=xZ m.TL g.job (x.failed m.now),QL:=xa m.QL t}/\zh (ZM i) w w':=by
 have n:K w.1.size w (w.alloc (.cells #[I t.ep,I t.num] 49)):=(E _ _).alloc (Z _) _
 have M:=zp w (.cells #[I t.ep,I t.num] 49)
 have qz:=zN w (.cells #[I t.ep,I t.num] 49)
 have hX:=h.later n
 obtain⟨-,-,-,-,-,-,-,-,c8,-,a0⟩:=hX.cells
 have ac:=hX.lt
 have aa:=zd M
 obtain⟨k0,k1,-⟩:=zc M
 have B:(⟨(yP (zD m.QL t)).kd,(yP (zD m.QL t)).s⟩:Jk).wf:=by rw[L];exact hj
 have G:=fun W hW=>ze (jC ((h.later (w':=W) hW).board) t ht B)
 generalize zmG (zD m.TL ⟨(yP (zD m.QL t)).kd,(yP (zD m.QL t)).s⟩)=JV at G
 simp only[L,Option.isSome_some]at G
 obtain⟨es,a7,D,F⟩:=h.board.leases
 have r:=ze n
 have QZ:=ze qz
 have H:=ze h
 have Q0:=ze M
 have HG:=ze L
 have Y:=ze hx
 have j:=ze (And.intro D F)
 clear h hX n M qz B L hx D F
 go_enter func21,ntmps21
 go_wp2_with fail
 have p1:w.1.size<w.1.size+1:=by omega
 have p2:i.x<w.1.size+1:=by have:=ud QZ;omega
 generalize(w.alloc (.cells #[I t.ep,I t.num] 49))=X at*
 generalize hN:w.1.size+1=N at*
 have a3:Nonempty (xc N X):=xc.some _ _
 have a2:=fun(u:xc N X) b o h=>u.cell b o h
 have z:N<=X.1.size:=by rw[ud QZ];exact Z _
 have U:=ze z
 have v:Hid (w.1.size<=N):=by show w.1.size<=N;omega
 have HN:=ze hN
 clear z hN
 refine zx N (by kernel_rfl) (by kernel_rfl) ?_
 repeat(go_big_quiet_step (first
  |(go_at_call 51;exact Calls.later (ud U) (ud (G _ ((ud r).trans (Below.mono (Subtype.property _) (ud v))))))))
 refine wpQuiet_nil ?_
 rintro⟨w1,l⟩
 clear a2 a3
 dsimp only
 have d:=(ud r).trans (l.mono (ud v))
 have a:=ze ((ud H).later d)
 have P:=ze d
 have p:=(l.block _ (show w.1.size<N by have:=ud HN;omega)).trans (ud Q0)
 obtain⟨-,-,-,-,-,-,-,-,e8,-,a8⟩:=(ud a).cells
 obtain⟨-,a9⟩:=(ud a).cells2
 obtain⟨t0,t1,-⟩:=zc p
 have a5:=zd p
 have a6:=(ud a).lt
 have R:=ze (zdI (((ud a).later (E _ _).drew).board) t ht (ud HG) hj (ud Y) m.now C ⟨a4.1,by omega⟩ (by omega) ((d.block _ (zd (ud j).1)).trans (ud j).1) (ud j).2)
 clear k0 k1 c8 a0 l d p G
 go_wp2_with fail
 refine xK 9 (by kernel_rfl) (by kernel_rfl) ?_
 simp only[List.take_succ_cons,List.take_zero,List.drop_succ_cons,List.drop_zero]
 repeat still_step
 refine wpStill_nil ?_
 go_wp2_with(first|(go_at_call 56;refine(ud R).mono ?_;rintro e V2 ⟨rfl,y,hK2,-⟩;have V:=ze y;have T:=ze hK2;clear y hK2))
 go_ret
 have A:zh (jT i.b i.tb i.qb) w1 V2:=((zh.refl (jT i.b i.tb i.qb) w1).drew).trans ((ud T).mono (fun k _ e=> .inr e)) (fun _ _ e=>e)
 have a1:=(ud a).putBoard (ud V) A
 exact⟨rfl,a1,(zh.of_below (f:=ZM i) (ud P)).trans (A.mono (fun q _ e=> .inr (.inr e))) (fun _ _ e=>e)⟩
theorem zev(V:S)(base:Nat)(a:base<=V.1.size)(x:SX):vW (V.alloc (.cells (xZz x) 148)) base (.slice (Q (U V.1.size 0)) 1 1) [x]:=by
 unfold vW
 exact Yt (n:=1) (xs:=[x].flatMap xq) (zp _ _) (by simp[xq]) (by omega) (by simp[maxLen]) a
theorem zhG{dn:Bool}{w:S}{i:Ids}{c:Cf}{ep:Int}{m:MS}(h:xG dn w i c ep m)(M:c.ok)(s:Sg)(N:inR c s)(k:Nat)(A:s.t=k):
  Calls prog 53 #[(O i.x),.iface 195 (.agg #[I s.t,I s.sr,I s.wn])] w fun e w'=>∃v,e=.returned v/\vW w' w.1.size v [(s,⟨3,xv (xo c m.L s.sr s.wn k)⟩)]/\K w.1.size w w':=by
 obtain⟨t,sr,wn⟩:=s
 dsimp only at A
 subst A
 obtain⟨⟨ha,H,hw⟩,h1,h2,D,F⟩:=N
 dsimp only at*
 generalize l:xv (xo c m.L sr wn k)=B
 obtain⟨X,d⟩:∃X,w.alloc (.cells #[I k,I sr,I wn] 195)=X:=⟨_,rfl⟩
 have j:K w.1.size w X:=by rw[<-d];exact(E _ _).alloc (Z _) _
 have z:X.1[w.1.size]?=Q (.cells #[I k,I sr,I wn] 195 (0,0)):=by rw[<-d];exact zp _ _
 have o:=h.later j
 obtain⟨-,-,-,-,-,-,-,-,-,C,-⟩:=o.cells
 have n:=o.lt
 have f:=zd z
 obtain⟨R,T,Y,-⟩:=zc z
 have g:=fun W (G:K X.1.size X W)=>ze (zgc (o.later G).set M k (by omega) sr wn H ⟨D,F⟩ B l)
 have q:=g X (E _ _)
 have r:=g X.drew (E _ _).drew
 have P:=fun W=>zqk (.agg #[I k,I sr,I wn]) W
 have y:=ze d
 have b:=ze j
 clear h o d j z g l
 go_enter func53,ntmps53
 go_wp2_with fail
 rw[ud y]
 go_region_held3 (fun w'=>w'.cell? (U i.x 9)=Q (O i.s)/\w'.cell? (U w.1.size 0)=Q (I k)/\w'.cell? (U w.1.size 1)=Q (I sr)/\w'.cell? (U w.1.size 2)=Q (I wn)) (go_keep) (first
  |(go_at_call 111;(first|(with_reducible refine(ud q).mono ?_)|(with_reducible refine(ud r).mono ?_));rintro e V ⟨rfl,a⟩;have hv:K X.1.size X V:=⟨a.os,a.tape,a.output,a.size,a.block⟩;clear a;have v9:=(hv.cell (p:=(U i.x 9)) n).trans C;have v0:=(hv.cell (p:=(U w.1.size 0)) f).trans R;have v1:=(hv.cell (p:=(U w.1.size 1)) f).trans T;have v2:=(hv.cell (p:=(U w.1.size 2)) f).trans Y;have lx:=J n hv.size;have lq:=J f hv.size;have u:=ze hv;clear hv))
 all_goals go_wp2_with fail
 all_goals go_ret
 all_goals exact⟨_,rfl,zev V w.1.size (Nat.le_trans (ud b).size (ud u).size) (⟨k,sr,wn⟩,⟨3,B⟩),((ud b).trans ((ud u).mono (ud b).size)).alloc (Nat.le_trans (ud b).size (ud u).size) _⟩
theorem zhF{dn:Bool}{w:S}{i:Ids}{c:Cf}{ep:Int}{m:MS}(h:xG dn w i c ep m)(s:Sg):
  Calls prog 53 #[(O i.x),.iface 197 (.agg #[I s.t,I s.sr,I s.wn])] w fun e w'=>∃v,e=.returned v/\vW w' w.1.size v [(s,⟨4,qt⟩)]/\K w.1.size w w':=by
 obtain⟨t,sr,wn⟩:=s
 dsimp only at*
 obtain⟨X,a⟩:∃X,w.alloc (.cells #[I t,I sr,I wn] 197)=X:=⟨_,rfl⟩
 have f:K w.1.size w X:=by rw[<-a];exact(E _ _).alloc (Z _) _
 have g:X.1[w.1.size]?=Q (.cells #[I t,I sr,I wn] 197 (0,0)):=by rw[<-a];exact zp _ _
 have j:=zd g
 obtain⟨o,p,q,-⟩:=zc g
 have l:=fun W=>zqj (.agg #[I t,I sr,I wn]) W
 have k:=fun W=>zqi (.agg #[I t,I sr,I wn]) W
 have d:=ze a
 have b:=ze f
 clear h a f g
 go_enter func53,ntmps53
 go_wp2_with fail
 rw[ud d]
 go_ret
 have n:X.1.size=w.1.size+1:=by rw[<-ud d];exact zN _ _
 rw[<-n]
 exact⟨_,rfl,zev X w.1.size (ud b).size (⟨t,sr,wn⟩,⟨4,qt⟩),(ud b).alloc (ud b).size _⟩
def Qa(b:Bool):Int:=match b with|true=>1|false=>0
abbrev mZz(c:Cf)(m:MS)(e:Int):Array Value:=#[I m.now,I (zJ m.L),I (Qa (yn (zJ m.L) c.qu)),I e,I (xR m.L 1),I (xR m.L 2),I (xR m.L 3),I m.Gl.length]
theorem zdd{w:S}{g:Nat}{a0 n a2 a3 a4 a5 k j:Value}{t:TypeId}{e:Nat×Nat}(h:w.1[g]?=Q (.cells #[a0,n,a2,a3,a4,a5,k,j] t e))(b0 a b c d f l m:Value):((((((((w.setCell (U g 0) b0).setCell (U g 1) a).setCell (U g 2) b).setCell (U g 3) c).setCell (U g 4) d).setCell (U g 5) f).setCell (U g 6) l).setCell (U g 7) m).1[g]?=Q (.cells #[b0,a,b,c,d,f,l,m] t e):=by
 have o:(w.setCell (U g 0) b0).1[g]?=Q (.cells #[b0,n,a2,a3,a4,a5,k,j] t e):=xy (i:=0) h b0
 have p:((w.setCell (U g 0) b0).setCell (U g 1) a).1[g]?=Q (.cells #[b0,a,a2,a3,a4,a5,k,j] t e):=xy (i:=1) o a
 have q:(((w.setCell (U g 0) b0).setCell (U g 1) a).setCell (U g 2) b).1[g]?=Q (.cells #[b0,a,b,a3,a4,a5,k,j] t e):=xy (i:=2) p b
 have r:((((w.setCell (U g 0) b0).setCell (U g 1) a).setCell (U g 2) b).setCell (U g 3) c).1[g]?=Q (.cells #[b0,a,b,c,a4,a5,k,j] t e):=xy (i:=3) q c
 have s:(((((w.setCell (U g 0) b0).setCell (U g 1) a).setCell (U g 2) b).setCell (U g 3) c).setCell (U g 4) d).1[g]?=Q (.cells #[b0,a,b,c,d,a5,k,j] t e):=xy (i:=4) r d
 have u:((((((w.setCell (U g 0) b0).setCell (U g 1) a).setCell (U g 2) b).setCell (U g 3) c).setCell (U g 4) d).setCell (U g 5) f).1[g]?=Q (.cells #[b0,a,b,c,d,f,k,j] t e):=xy (i:=5) s f
 have v:(((((((w.setCell (U g 0) b0).setCell (U g 1) a).setCell (U g 2) b).setCell (U g 3) c).setCell (U g 4) d).setCell (U g 5) f).setCell (U g 6) l).1[g]?=Q (.cells #[b0,a,b,c,d,f,l,j] t e):=xy (i:=6) u l
 have x:((((((((w.setCell (U g 0) b0).setCell (U g 1) a).setCell (U g 2) b).setCell (U g 3) c).setCell (U g 4) d).setCell (U g 5) f).setCell (U g 6) l).setCell (U g 7) m).1[g]?=Q (.cells #[b0,a,b,c,d,f,l,m] t e):=xy (i:=7) v m
 exact x
theorem zce{B:Nat}{w:S}{g:Nat}(a:B<=g)(b0 b c d e f h i:Value):K B w ((((((((w.setCell (U g 0) b0).setCell (U g 1) b).setCell (U g 2) c).setCell (U g 3) d).setCell (U g 4) e).setCell (U g 5) f).setCell (U g 6) h).setCell (U g 7) i):=(((((((((E _ _).setCell (p:=(U g 0)) a b0).setCell (p:=(U g 1)) a b).setCell (p:=(U g 2)) a c).setCell (p:=(U g 3)) a d).setCell (p:=(U g 4)) a e).setCell (p:=(U g 5)) a f).setCell (p:=(U g 6)) a h).setCell (p:=(U g 7)) a i)
theorem z8{w:S}{g:Nat}{a0 a a2 a3 a4 a5 b c:Value}{t:TypeId}{d:Nat×Nat}(h:w.1[g]?=Q (.cells #[a0,a,a2,a3,a4,a5,b,c] t d)):w.cell? (U g 0)=Q a0/\w.cell? (U g 1)=Q a/\w.cell? (U g 2)=Q a2/\w.cell? (U g 3)=Q a3/\w.cell? (U g 4)=Q a4/\w.cell? (U g 5)=Q a5/\w.cell? (U g 6)=Q b/\w.cell? (U g 7)=Q c:=by
 refine⟨?_,?_,?_,?_,?_,?_,?_,?_⟩<;>rw[xH h]<;>rfl
theorem zng{X V:S}(h:K X.1.size X V)(o:Obj):K X.1.size X (V.alloc o):=h.alloc h.size o
theorem znh{X V:S}(h:K X.1.size X V){g:Nat}(j:X.1.size<=g)(b0 a b c d e f i:Value):K X.1.size X ((((((((V.setCell (U g 0) b0).setCell (U g 1) a).setCell (U g 2) b).setCell (U g 3) c).setCell (U g 4) d).setCell (U g 5) e).setCell (U g 6) f).setCell (U g 7) i):=h.trans (zce j b0 a b c d e f i)
theorem Jz{dn:Bool}{w:S}{i:Ids}{c:Cf}{ep:Int}{m:MS}(h:xG dn w i c ep m)(hc:c.ok)(hu:0<=zJ m.L/\zJ m.L<=1000)(a4:m.L.length<=100000):
  Calls prog 15 #[(O i.x)] w fun e w'=>e=.returned (.agg #[I m.now,I (zJ m.L),I (Qa (yn (zJ m.L) c.qu)),I ep,I (xR m.L 1),I (xR m.L 2),I (xR m.L 3),I m.Gl.length])/\Below w.1.size w w':=by
 have aU:K w.1.size w (w.alloc yH):=(E _ _).alloc (Z _) _
 have q0:=zp w yH
 have qz:=zN w yH
 have hX:=h.later aU
 obtain⟨-,-,-,-,-,-,-,g,k,l,-⟩:=hX.cells
 have b:=hX.lt
 have HU:∀W,K (w.alloc yH).1.size (w.alloc yH) W->Hid (Calls prog 43 #[(O i.s)] W fun e w'=>e=.returned (I (zJ m.L))/\Below W.1.size W w'):=fun W hW=>XY ((hX.later hW).set) (by unfold xg;omega)
 have X:∀W,K (w.alloc yH).1.size (w.alloc yH) W->Hid (Calls prog 44 #[(O i.s),I 1] W fun e w'=>e=.returned (I (xR m.L 1))/\Below W.1.size W w'):=fun W hW=>Qx ((hX.later hW).set) 1 (by decide) a4
 have a0:∀W,K (w.alloc yH).1.size (w.alloc yH) W->Hid (Calls prog 44 #[(O i.s),I 2] W fun e w'=>e=.returned (I (xR m.L 2))/\Below W.1.size W w'):=fun W hW=>Qx ((hX.later hW).set) 2 (by decide) a4
 have a1:∀W,K (w.alloc yH).1.size (w.alloc yH) W->Hid (Calls prog 44 #[(O i.s),I 3] W fun e w'=>e=.returned (I (xR m.L 3))/\Below W.1.size W w'):=fun W hW=>Qx ((hX.later hW).set) 3 (by decide) a4
 have a2:∀W,K (w.alloc yH).1.size (w.alloc yH) W->Hid (Calls prog 44 #[(O i.s),I 4] W fun e w'=>e=.returned (I m.Gl.length)/\Below W.1.size W w'):=fun W hW=>ziL ((hX.later hW).set)
 have HT:∀W,K (w.alloc yH).1.size (w.alloc yH) W->Hid (Calls prog 45 #[(O i.x)] W fun e w'=>e=.returned (.bool (yn (zJ m.L) c.qu))/\Below W.1.size W w'):=fun W hW=>VZ (hX.later hW) hc hu
 generalize zJ m.L=U9 at*
 generalize xR m.L 1=A1 at*
 generalize xR m.L 2=A2 at*
 generalize xR m.L 3=A3 at*
 generalize(m.Gl.length:Int)=G at*
 generalize yn U9 c.qu=tt at*
 have a6:=ze aU
 have aE:=ze q0
 have aY:w.1.size<(w.alloc yH).1.size:=by rw[qz];omega
 clear h hX aU q0 qz hu a4
 go_enter func15,ntmps15
 go_wp2_with fail
 generalize(w.alloc yH)=R at*
 have N:Hid (K R.1.size R R):=E _ _
 rename_i Q1 K1 hK1
 have HR:Hid (∀(ob:Nat) (u4 u5 u6 u7 u8 u9 aa ab ac ad ae af ag ah ai aj ak al am an ao ap aq ar au av aw ax ay az aA aB aC aD:Value) (Y:S),Y.1[ob]?=Q (.cells #[I m.now,I U9,I 0,I ep,I A1,I A2,I A3,I G] 37 (0,0))->K R.1.size R Y->R.1.size<=ob->K1 {tmps:=#[(O i.x),undef,(O w.1.size),(O ob),u4,u5,u6,u7,u8,u9,aa,ab,ac,ad,ae,af,ag,ah,ai,aj,ak,al,am,an,ao,ap,aq,ar,au,av,aw,ax,ay,az,aA,aB,aC,aD,undef,undef,undef,undef],defers:=[]} Y):=by
  show∀(ob:Nat) (u4 u5 u6 u7 u8 u9 aa ab ac ad ae af ag ah ai aj ak al am an ao ap aq ar au av aw ax ay az aA aB aC aD:Value) (Y:S),Y.1[ob]?=Q (.cells #[I m.now,I U9,I 0,I ep,I A1,I A2,I A3,I G] 37 (0,0))->K R.1.size R Y->R.1.size<=ob->K1 {tmps:=#[(O i.x),undef,(O w.1.size),(O ob),u4,u5,u6,u7,u8,u9,aa,ab,ac,ad,ae,af,ag,ah,ai,aj,ak,al,am,an,ao,ap,aq,ar,au,av,aw,ax,ay,az,aA,aB,aC,aD,undef,undef,undef,undef],defers:=[]} Y
  intro ob u4 u5 u6 u7 u8 u9 aa ab ac ad ae af ag ah ai aj ak al am an ao ap aq ar au av aw ax ay az aA aB aC aD Y d hY b5
  apply hK1
  have HY:=ze hY
  have aW:=HT Y hY
  have n:=ze d
  clear hY d hK1 HT HU X a0 a1 a2 g k l
  cases tt with
  |false=>
   go_wp2_with(first|(go_at_call 45;refine(ud aW).mono ?_;rintro e T ⟨rfl,hT⟩;have a3:=(ud HY).trans (hT.mono (ud HY).size);have F:=(hT.block _ (zd (ud n))).trans (ud n);have P:=(a3.block _ aY).trans (ud aE);obtain⟨p0,p1,p2,p3,p4,p5,p6,p7⟩:=z8 F;obtain⟨r0,r1,r2,r3,r4,r5,r6,r7⟩:=z8 P;have pf:=fun j=>zv F j;have rf:=fun j=>zv P j;have aF:¬w.1.size=ob:=(by omega);have aX:¬ob=w.1.size:=(by omega);have b3:=zd F;have b4:=zd P;have aT:=ze a3;have aS:=ze P;clear hT a3 F P))
   have hf:=zdd (ud aS) (I m.now) (I U9) (I 0) (I ep) (I A1) (I A2) (I A3) (I G)
   refine bodyPost_ret (v:=.agg #[I m.now,I U9,I 0,I ep,I A1,I A2,I A3,I G]) (results_cell_row results15 _ _ w.1.size _ _ _ _ rfl hf underlying37 rfl (by kernel_rfl)) rfl ?_
   refine⟨rfl,?_⟩
   have hw:=(ud a6).trans ((ud aT).mono (ud a6).size)
   exact hw.trans (zce (Z _) (I m.now) (I U9) (I 0) (I ep) (I A1) (I A2) (I A3) (I G))
  |true=>
   go_wp2_with(first|(go_at_call 45;refine(ud aW).mono ?_;rintro e T ⟨rfl,hT⟩;have a3:=(ud HY).trans (hT.mono (ud HY).size);have F:=(hT.block _ (zd (ud n))).trans (ud n);have P:=(a3.block _ aY).trans (ud aE);obtain⟨p0,p1,p2,p3,p4,p5,p6,p7⟩:=z8 F;obtain⟨r0,r1,r2,r3,r4,r5,r6,r7⟩:=z8 P;have pf:=fun j=>zv F j;have rf:=fun j=>zv P j;have aF:¬w.1.size=ob:=(by omega);have aX:¬ob=w.1.size:=(by omega);have b3:=zd F;have b4:=zd P;have aT:=ze a3;have aS:=ze P;clear hT a3 F P))
   have hf:=zdd (w:=T.setCell (U ob 2) (I 1)) ((zI aF).trans (ud aS)) (I m.now) (I U9) (I 1) (I ep) (I A1) (I A2) (I A3) (I G)
   refine bodyPost_ret (v:=.agg #[I m.now,I U9,I 1,I ep,I A1,I A2,I A3,I G]) (results_cell_row results15 _ _ w.1.size _ _ _ _ rfl hf underlying37 rfl (by kernel_rfl)) rfl ?_
   refine⟨rfl,?_⟩
   have hw:=(ud a6).trans ((ud aT).mono (ud a6).size)
   exact(hw.setCell (p:=(U ob 2)) (show w.1.size<=ob by omega) _).trans (zce (Z _) (I m.now) (I U9) (I 1) (I ep) (I A1) (I A2) (I A3) (I G))
 clear hK1 HT
 go_region_held3 (fun w'=>w'.cell? (U i.x 7)=Q (I ep)/\w'.cell? (U i.x 8)=Q (I m.now)/\w'.cell? (U i.x 9)=Q (O i.s)) (go_keep) (first
  |(go_at_call 43;(first|(with_reducible refine(ud (HU (R.alloc yH) ((ud N).alloc (ud N).size yH))).mono ?_)|(with_reducible refine(ud (HU (R.alloc yH).drew ((ud N).alloc (ud N).size yH).drew)).mono ?_));rintro e H ⟨rfl,a⟩;have hn:K (R.alloc yH).1.size (R.alloc yH) H:=⟨a.os,a.tape,a.output,a.size,a.block⟩;have M:=((ud N).alloc (ud N).size yH).trans (hn.mono ((ud N).alloc (ud N).size yH).size);have A:=ze M;have b0:Cz H i.x 7 (I ep):=(M.cell (p:=(U i.x 7)) b).trans g;have b1:Cz H i.x 8 (I m.now):=(M.cell (p:=(U i.x 8)) b).trans k;have b2:Cz H i.x 9 (O i.s):=(M.cell (p:=(U i.x 9)) b).trans l;have aV:i.x<H.1.size:=J b M.size;have d:=(hn.block R.1.size (by simp)).trans (zp R yH);have n1:¬i.x=R.1.size:=(by have:=b;omega);have n2:¬R.1.size=i.x:=(by have:=b;omega);obtain⟨o0,o1,o2,o3,o4,o5,o6,o7⟩:=z8 d;have of:=fun j=>zv d j;have ol:=zd d;have n:=ze d;clear d;clear a hn M)
  |(go_at_call 43;(first|(with_reducible refine(ud (HU R (ud N))).mono ?_)|(with_reducible refine(ud (HU R.drew (ud N).drew)).mono ?_));rintro e H ⟨rfl,a⟩;have hn:K R.1.size R H:=⟨a.os,a.tape,a.output,a.size,a.block⟩;have M:=(ud N).trans (hn.mono (ud N).size);have A:=ze M;have b0:Cz H i.x 7 (I ep):=(M.cell (p:=(U i.x 7)) b).trans g;have b1:Cz H i.x 8 (I m.now):=(M.cell (p:=(U i.x 8)) b).trans k;have b2:Cz H i.x 9 (O i.s):=(M.cell (p:=(U i.x 9)) b).trans l;have aV:i.x<H.1.size:=J b M.size;clear a hn M)
  |(go_at_call 44;have f:=ud n;(first|(with_reducible refine(ud (X H (ud A))).mono ?_)|(with_reducible refine(ud (X H.drew (ud A).drew)).mono ?_));rintro e B ⟨rfl,a⟩;have hn:K H.1.size H B:=⟨a.os,a.tape,a.output,a.size,a.block⟩;have o:=(ud A).trans (hn.mono (ud A).size);have u:=ze o;have aG:Cz B i.x 7 (I ep):=(o.cell (p:=(U i.x 7)) b).trans g;have aK:Cz B i.x 8 (I m.now):=(o.cell (p:=(U i.x 8)) b).trans k;have aO:Cz B i.x 9 (O i.s):=(o.cell (p:=(U i.x 9)) b).trans l;have a7:i.x<B.1.size:=J b o.size;have d:=(hn.block _ (zd f)).trans f;clear f n o0 o1 o2 o3 o4 o5 o6 o7 of ol;obtain⟨o0,o1,o2,o3,o4,o5,o6,o7⟩:=z8 d;have of:=fun j=>zv d j;have ol:=zd d;have n:=ze d;clear d;clear a hn o)
  |(go_at_call 44;(first|(with_reducible refine(ud (X (H.alloc yH) ((ud A).alloc (ud A).size yH))).mono ?_)|(with_reducible refine(ud (X (H.alloc yH).drew ((ud A).alloc (ud A).size yH).drew)).mono ?_));rintro e B ⟨rfl,a⟩;have hn:K (H.alloc yH).1.size (H.alloc yH) B:=⟨a.os,a.tape,a.output,a.size,a.block⟩;have o:=((ud A).alloc (ud A).size yH).trans (hn.mono ((ud A).alloc (ud A).size yH).size);have u:=ze o;have aG:Cz B i.x 7 (I ep):=(o.cell (p:=(U i.x 7)) b).trans g;have aK:Cz B i.x 8 (I m.now):=(o.cell (p:=(U i.x 8)) b).trans k;have aO:Cz B i.x 9 (O i.s):=(o.cell (p:=(U i.x 9)) b).trans l;have a7:i.x<B.1.size:=J b o.size;have d:=(hn.block H.1.size (by simp)).trans (zp H yH);have n1:¬i.x=H.1.size:=(by have:=aV;omega);have n2:¬H.1.size=i.x:=(by have:=aV;omega);obtain⟨o0,o1,o2,o3,o4,o5,o6,o7⟩:=z8 d;have of:=fun j=>zv d j;have ol:=zd d;have n:=ze d;clear d;clear a hn o)
  |(go_at_call 44;(first|(with_reducible refine(ud (X H (ud A))).mono ?_)|(with_reducible refine(ud (X H.drew (ud A).drew)).mono ?_));rintro e B ⟨rfl,a⟩;have hn:K H.1.size H B:=⟨a.os,a.tape,a.output,a.size,a.block⟩;have o:=(ud A).trans (hn.mono (ud A).size);have u:=ze o;have aG:Cz B i.x 7 (I ep):=(o.cell (p:=(U i.x 7)) b).trans g;have aK:Cz B i.x 8 (I m.now):=(o.cell (p:=(U i.x 8)) b).trans k;have aO:Cz B i.x 9 (O i.s):=(o.cell (p:=(U i.x 9)) b).trans l;have a7:i.x<B.1.size:=J b o.size;clear a hn o)
  |(go_at_call 44;have f:=ud n;(first|(with_reducible refine(ud (a0 B (ud u))).mono ?_)|(with_reducible refine(ud (a0 B.drew (ud u).drew)).mono ?_));rintro e C ⟨rfl,a⟩;have hn:K B.1.size B C:=⟨a.os,a.tape,a.output,a.size,a.block⟩;have q:=(ud u).trans (hn.mono (ud u).size);have y:=ze q;have aH:Cz C i.x 7 (I ep):=(q.cell (p:=(U i.x 7)) b).trans g;have aL:Cz C i.x 8 (I m.now):=(q.cell (p:=(U i.x 8)) b).trans k;have aP:Cz C i.x 9 (O i.s):=(q.cell (p:=(U i.x 9)) b).trans l;have a8:i.x<C.1.size:=J b q.size;have d:=(hn.block _ (zd f)).trans f;clear f n o0 o1 o2 o3 o4 o5 o6 o7 of ol;obtain⟨o0,o1,o2,o3,o4,o5,o6,o7⟩:=z8 d;have of:=fun j=>zv d j;have ol:=zd d;have n:=ze d;clear d;clear a hn q)
  |(go_at_call 44;(first|(with_reducible refine(ud (a0 (B.alloc yH) ((ud u).alloc (ud u).size yH))).mono ?_)|(with_reducible refine(ud (a0 (B.alloc yH).drew ((ud u).alloc (ud u).size yH).drew)).mono ?_));rintro e C ⟨rfl,a⟩;have hn:K (B.alloc yH).1.size (B.alloc yH) C:=⟨a.os,a.tape,a.output,a.size,a.block⟩;have q:=((ud u).alloc (ud u).size yH).trans (hn.mono ((ud u).alloc (ud u).size yH).size);have y:=ze q;have aH:Cz C i.x 7 (I ep):=(q.cell (p:=(U i.x 7)) b).trans g;have aL:Cz C i.x 8 (I m.now):=(q.cell (p:=(U i.x 8)) b).trans k;have aP:Cz C i.x 9 (O i.s):=(q.cell (p:=(U i.x 9)) b).trans l;have a8:i.x<C.1.size:=J b q.size;have d:=(hn.block B.1.size (by simp)).trans (zp B yH);have n1:¬i.x=B.1.size:=(by have:=a7;omega);have n2:¬B.1.size=i.x:=(by have:=a7;omega);obtain⟨o0,o1,o2,o3,o4,o5,o6,o7⟩:=z8 d;have of:=fun j=>zv d j;have ol:=zd d;have n:=ze d;clear d;clear a hn q)
  |(go_at_call 44;(first|(with_reducible refine(ud (a0 B (ud u))).mono ?_)|(with_reducible refine(ud (a0 B.drew (ud u).drew)).mono ?_));rintro e C ⟨rfl,a⟩;have hn:K B.1.size B C:=⟨a.os,a.tape,a.output,a.size,a.block⟩;have q:=(ud u).trans (hn.mono (ud u).size);have y:=ze q;have aH:Cz C i.x 7 (I ep):=(q.cell (p:=(U i.x 7)) b).trans g;have aL:Cz C i.x 8 (I m.now):=(q.cell (p:=(U i.x 8)) b).trans k;have aP:Cz C i.x 9 (O i.s):=(q.cell (p:=(U i.x 9)) b).trans l;have a8:i.x<C.1.size:=J b q.size;clear a hn q)
  |(go_at_call 44;have f:=ud n;(first|(with_reducible refine(ud (a1 C (ud y))).mono ?_)|(with_reducible refine(ud (a1 C.drew (ud y).drew)).mono ?_));rintro e D ⟨rfl,a⟩;have hn:K C.1.size C D:=⟨a.os,a.tape,a.output,a.size,a.block⟩;have r:=(ud y).trans (hn.mono (ud y).size);have z:=ze r;have aI:Cz D i.x 7 (I ep):=(r.cell (p:=(U i.x 7)) b).trans g;have aM:Cz D i.x 8 (I m.now):=(r.cell (p:=(U i.x 8)) b).trans k;have aQ:Cz D i.x 9 (O i.s):=(r.cell (p:=(U i.x 9)) b).trans l;have a9:i.x<D.1.size:=J b r.size;have d:=(hn.block _ (zd f)).trans f;clear f n o0 o1 o2 o3 o4 o5 o6 o7 of ol;obtain⟨o0,o1,o2,o3,o4,o5,o6,o7⟩:=z8 d;have of:=fun j=>zv d j;have ol:=zd d;have n:=ze d;clear d;clear a hn r)
  |(go_at_call 44;(first|(with_reducible refine(ud (a1 (C.alloc yH) ((ud y).alloc (ud y).size yH))).mono ?_)|(with_reducible refine(ud (a1 (C.alloc yH).drew ((ud y).alloc (ud y).size yH).drew)).mono ?_));rintro e D ⟨rfl,a⟩;have hn:K (C.alloc yH).1.size (C.alloc yH) D:=⟨a.os,a.tape,a.output,a.size,a.block⟩;have r:=((ud y).alloc (ud y).size yH).trans (hn.mono ((ud y).alloc (ud y).size yH).size);have z:=ze r;have aI:Cz D i.x 7 (I ep):=(r.cell (p:=(U i.x 7)) b).trans g;have aM:Cz D i.x 8 (I m.now):=(r.cell (p:=(U i.x 8)) b).trans k;have aQ:Cz D i.x 9 (O i.s):=(r.cell (p:=(U i.x 9)) b).trans l;have a9:i.x<D.1.size:=J b r.size;have d:=(hn.block C.1.size (by simp)).trans (zp C yH);have n1:¬i.x=C.1.size:=(by have:=a8;omega);have n2:¬C.1.size=i.x:=(by have:=a8;omega);obtain⟨o0,o1,o2,o3,o4,o5,o6,o7⟩:=z8 d;have of:=fun j=>zv d j;have ol:=zd d;have n:=ze d;clear d;clear a hn r)
  |(go_at_call 44;(first|(with_reducible refine(ud (a1 C (ud y))).mono ?_)|(with_reducible refine(ud (a1 C.drew (ud y).drew)).mono ?_));rintro e D ⟨rfl,a⟩;have hn:K C.1.size C D:=⟨a.os,a.tape,a.output,a.size,a.block⟩;have r:=(ud y).trans (hn.mono (ud y).size);have z:=ze r;have aI:Cz D i.x 7 (I ep):=(r.cell (p:=(U i.x 7)) b).trans g;have aM:Cz D i.x 8 (I m.now):=(r.cell (p:=(U i.x 8)) b).trans k;have aQ:Cz D i.x 9 (O i.s):=(r.cell (p:=(U i.x 9)) b).trans l;have a9:i.x<D.1.size:=J b r.size;clear a hn r)
  |(go_at_call 44;have f:=ud n;(first|(with_reducible refine(ud (a2 D (ud z))).mono ?_)|(with_reducible refine(ud (a2 D.drew (ud z).drew)).mono ?_));rintro e V ⟨rfl,a⟩;have hn:K D.1.size D V:=⟨a.os,a.tape,a.output,a.size,a.block⟩;have t:=(ud z).trans (hn.mono (ud z).size);have a5:=ze t;have aJ:Cz V i.x 7 (I ep):=(t.cell (p:=(U i.x 7)) b).trans g;have aN:Cz V i.x 8 (I m.now):=(t.cell (p:=(U i.x 8)) b).trans k;have aR:Cz V i.x 9 (O i.s):=(t.cell (p:=(U i.x 9)) b).trans l;have aZ:i.x<V.1.size:=J b t.size;have d:=(hn.block _ (zd f)).trans f;clear f n o0 o1 o2 o3 o4 o5 o6 o7 of ol;obtain⟨o0,o1,o2,o3,o4,o5,o6,o7⟩:=z8 d;have of:=fun j=>zv d j;have ol:=zd d;have n:=ze d;clear d;clear a hn t)
  |(go_at_call 44;(first|(with_reducible refine(ud (a2 (D.alloc yH) ((ud z).alloc (ud z).size yH))).mono ?_)|(with_reducible refine(ud (a2 (D.alloc yH).drew ((ud z).alloc (ud z).size yH).drew)).mono ?_));rintro e V ⟨rfl,a⟩;have hn:K (D.alloc yH).1.size (D.alloc yH) V:=⟨a.os,a.tape,a.output,a.size,a.block⟩;have t:=((ud z).alloc (ud z).size yH).trans (hn.mono ((ud z).alloc (ud z).size yH).size);have a5:=ze t;have aJ:Cz V i.x 7 (I ep):=(t.cell (p:=(U i.x 7)) b).trans g;have aN:Cz V i.x 8 (I m.now):=(t.cell (p:=(U i.x 8)) b).trans k;have aR:Cz V i.x 9 (O i.s):=(t.cell (p:=(U i.x 9)) b).trans l;have aZ:i.x<V.1.size:=J b t.size;have d:=(hn.block D.1.size (by simp)).trans (zp D yH);have n1:¬i.x=D.1.size:=(by have:=a9;omega);have n2:¬D.1.size=i.x:=(by have:=a9;omega);obtain⟨o0,o1,o2,o3,o4,o5,o6,o7⟩:=z8 d;have of:=fun j=>zv d j;have ol:=zd d;have n:=ze d;clear d;clear a hn t)
  |(go_at_call 44;(first|(with_reducible refine(ud (a2 D (ud z))).mono ?_)|(with_reducible refine(ud (a2 D.drew (ud z).drew)).mono ?_));rintro e V ⟨rfl,a⟩;have hn:K D.1.size D V:=⟨a.os,a.tape,a.output,a.size,a.block⟩;have t:=(ud z).trans (hn.mono (ud z).size);have a5:=ze t;have aJ:Cz V i.x 7 (I ep):=(t.cell (p:=(U i.x 7)) b).trans g;have aN:Cz V i.x 8 (I m.now):=(t.cell (p:=(U i.x 8)) b).trans k;have aR:Cz V i.x 9 (O i.s):=(t.cell (p:=(U i.x 9)) b).trans l;have aZ:i.x<V.1.size:=J b t.size;clear a hn t))
 all_goals show K1 _ _
 all_goals(with_reducible refine ud HR _ _ _ _ _ _ _ _ _ _ _ _ _ _ _ _ _ _ _ _ _ _ _ _ _ _ _ _ _ _ _ _ _ _ _ _ ?_ ?_ ?_)
 all_goals(have bb:=(ud a5).size;have ba:=(ud z).size;have b9:=(ud y).size;have b8:=(ud u).size;have b7:=(ud A).size)
 all_goals(try have b6:=ol)
 all_goals(try have d:=ud n)
 all_goals(first
  |(with_reducible exact zp _ _)
  |(with_reducible exact zdd (by assumption) _ _ _ _ _ _ _ _)
  |(with_reducible exact zng (ud a5) _)
  |((with_reducible refine znh (ud a5) ?_ _ _ _ _ _ _ _ _)<;>omega)
  |omega)
end Go.Proofs.YtndhpgciopcncaaGreatDoor
