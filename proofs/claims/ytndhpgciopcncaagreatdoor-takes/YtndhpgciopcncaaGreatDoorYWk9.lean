import Derived.Test.YtndhpgciopcncaaGreatDoorYShp0
import Derived.Test.YtndhpgciopcncaaGreatDoorYWk5
import Derived.Test.YtndhpgciopcncaaGreatDoorYLawE
import Derived.Test.YtndhpgciopcncaaGreatDoorRows
import Derived.WalkKit
import Derived.ProofKit
import Derived.OpenShut
import Derived.ChangeOld
import Derived.Below
import Derived.SizedLaws
import Derived.Test.YtndhpgciopcncaaGreatDoorYTakesFact
import Derived.Test.YtndhpgciopcncaaGreatDoorCards
import Derived.Test.YtndhpgciopcncaaGreatDoorTie
import Derived.Handed
import Derived.Handy
import Derived.Lay
import Derived.SevenTiedAt
open Option renaming none → I
open Go.Value renaming int → O
open Go.IntKind renaming i64 → E
open Option renaming some → Q
open Nat renaming le_refl → Y
open Go renaming World → N
open Go.RowKit renaming Below → P
open Go renaming Value → M
open Go.RowKit.Below renaming refl → l
open Nat renaming le_trans → z0
open Go.IntKind (i32)
set_option linter.unusedVariables false
set_option maxRecDepth 100000
set_option maxHeartbeats 4000000
open Go.Proofs.Tryz
namespace Go.Proofs.YtndhpgciopcncaaGreatDoor
open Go.RowKit Go.Maps Go.Shelf
section
variable {w:N} {i:Ids} {c:Cf} {ep:Int} {m:MS} {r:RM}
theorem zgo(h:zB w i c ep m)(b:qB c ep m r)(se tm val:Int)(a: -2147483648<=val/\val<=2147483647):
  Calls prog 27 #[.pointer (Q ⟨i.x,0,I⟩),O E se,O E tm,O i32 val] w fun e w'=>∃m',e=.returned (O E (r.ingest se tm val).2)/\zB w' i c ep m'/\Kx i w w'/\qB c ep m' (r.ingest se tm val).1/\m'.num<=m.num+1:=by
 obtain⟨j,k⟩:=b.ingest se tm val a
 refine(zgI h b se tm val a).mono fun e w' ⟨d,f,g⟩=>⟨_,by rw[j];exact d,f,g,k,?_⟩
 unfold xC
 repeat' split
 all_goals(dsimp only;omega)
theorem zfJ(h:zB w i c ep m)(b:qB c ep m r)(n:Int):
  Calls prog 26 #[.pointer (Q ⟨i.x,0,I⟩),O E n] w fun e w'=>∃m',e=.returned (O E (r.tickL n).2)/\zB w' i c ep m'/\Kx i w w'/\qB c ep m' (r.tickL n).1/\m'.num<=m.num+1:=by
 have a:=b.sok.ok
 by_cases j:n<1\/1000<n\/100000<m.now+n
 ·rw[b.tick_bad j]
  exact(zeC h n j a.now).mono fun e w' ⟨d,g⟩=>⟨m,d,h.later g,h.below g,b,by omega⟩
 ·have B:=a.seg.len400 b.ok
  refine(zcG h b.ok n (by omega) ⟨a.now.1,by omega⟩ (a.binv b.ok) a.seg.inr (by omega) (fun A Q' f=>?_)).mono ?_
  ·obtain⟨D,s⟩:=VC a.nt a.nq a.jobs f
   rw[s.tl,List.length_map]
   have:=a.t800 b.ok;omega
  ·rintro e w' ⟨d,p,k,o,u,t,f,z,y⟩
   obtain⟨q,v⟩:=b.tick (n:=n) (by omega) (by omega) f z y
   exact⟨_,by rw[q];exact d,u,t,v,by dsimp only;omega⟩
end
section
variable {B:Nat} {X:N} {q:Nat} {c:Cf} {ep:Int} {m:MS} {r:RM} {tv nv pv gv kv:M}
theorem zff(h:zQ B X q r tv nv pv gv kv)(hap:∀k,pv.ownBlock=Q k->¬gv.ownBlock=Q k)(o:B<=X.1.size)(b:qB c ep m r)(se tm val:Int)(d: -2147483648<=val/\val<=2147483647):
  Calls prog 211 #[.pointer (Q ⟨q,0,I⟩),O E se,O E tm,O i32 val] X fun e V=>e=.returned (O E (r.ingest se tm val).2)/\kD B X q (r.ingest se tm val).1 tv nv pv gv kv V:=by
 have p:=b.len;have s:=b.glen;have t:=b.plen;have u:=b.klen;have v:=b.used;have w:=b.ubound
 refine(zaB h o b.hokr (by omega) (by omega) (by omega) (by omega) b.nu b.time (by omega) se tm val d).mono ?_
 rintro e V ⟨n,g,f,i,j,a3,a4⟩
 refine⟨n,g,pv,gv,f,i,hap,j.mono (fun k _ e=>?_),fun k a=>?_⟩
 ·rcases e with e|e
  ·exact .inl e
  ·exact .inr (.inr (.inl e))
 ·rcases a with a|a|a|a|a|a
  ·exact .inl (.inl a)
  ·exact .inl (.inr (.inl a))
  ·exact(a3 k a).imp (fun e=> .inr (.inr (.inl e))) id
  ·exact .inl (.inr (.inr (.inr (.inl a))))
  ·exact .inl (.inr (.inr (.inr (.inr (.inl a)))))
  ·exact(a4 k a).imp (fun e=> .inr (.inr (.inr (.inr (.inr e))))) id
theorem zdm(h:zQ B X q r tv nv pv gv kv)(hap:∀k,pv.ownBlock=Q k->¬gv.ownBlock=Q k)(j:B<=X.1.size)(b:qB c ep m r)(n:Int)(hn: -9223372036854775808<=n/\n<=9223372036854775807):
  Calls prog 212 #[.pointer (Q ⟨q,0,I⟩),O E n] X fun e V=>e=.returned (O E (r.tickL n).2)/\kD B X q (r.tickL n).1 tv nv pv gv kv V:=by
 have p:=b.len;have s:=b.glen;have t:=b.plen;have u:=b.klen
 refine(zfi h j b.hokr (by omega) (by omega) (by omega) (by omega) b.nu b.time (fun x o=>(b.task x o).1) n hn).mono ?_
 rintro e V ⟨i,d,f,g,a4⟩
 refine⟨i,nv,pv,gv,d,f,hap,g.mono (fun k _ e=>?_),fun k a=>?_⟩
 ·rcases e with e|e
  ·exact .inl e
  ·exact .inr (.inr (.inr (.inr (.inr e))))
 ·rcases a with a|a|a|a|a|a
  ·exact .inl (.inl a)
  ·exact .inl (.inr (.inl a))
  ·exact .inl (.inr (.inr (.inl a)))
  ·exact .inl (.inr (.inr (.inr (.inl a))))
  ·exact .inl (.inr (.inr (.inr (.inr (.inl a)))))
  ·exact(a4 k a).imp (fun e=> .inr (.inr (.inr (.inr (.inr e))))) id
theorem zky(r:RM)(a b v:Int):¬(r.ingest a b v).2=13:=by
 unfold RM.ingest;repeat' split
 all_goals simp
theorem zkh(r:RM)(n:Int):¬(r.tickL n).2=13:=by unfold RM.tickL;split<;>simp
end
theorem zeL(c:Cf)(g:24*(c.n+1)<=281474976710656)(o:xt c.s c.le c.la c.wi c.ke c.qu c.n c.F c.W c.K=false)(a:Option Addr)(cap p:Nat)(w:N)(i:TS w a c.n c.F c.W c.K):
  Calls prog 74 #[.agg #[O E c.s,O E c.le,O E c.la,O E c.wi,O E c.ke,O E c.qu,.slice a c.n cap],.pointer (Q ⟨p,0,I⟩)] w fun e w'=>e=.returned (.tuple #[.pointer I,O E 1,.bool true])/\P w.1.size w w':=by
 refine(VY c.s c.le c.la c.wi c.ke c.qu a c.n cap c.F c.W c.K g w p (fun _=>False) (fun k h=>h.elim) (fun w' b=>i.below (b.below (Y _) (fun k h=>h.elim))) (fun j d _=>j=I/\d=1) (fun j d A B b h=>h) (fun m r t q=>?_)).mono ?_
 ·refine(zeU c o (Q ⟨w.1.size+1,0,I⟩) (c.n+1) p m (q m (zk.refl _ _))).mono ?_
  rintro e u ⟨rfl,f⟩
  exact⟨I,1,rfl,zk.of_below f,rfl,rfl⟩
 ·rintro e w' ⟨j,d,rfl,b,rfl,rfl⟩
  exact⟨rfl,b.below (Y _) (fun k h=>h.elim)⟩
def zeK(c:Cf)(p:Nat)(fs:M)(w:N)(e:Ending)(w':N):Prop:=
 ∃i:Ids,i.d=p/\e=.returned (.tuple #[.pointer (Q ⟨i.x,0,I⟩),O E 0,.bool true])/\zB w' i c 1 ⟨0,[],[],0,[],[]⟩/\zk (foot p fs) w w'/\∀k,zT w' i k->foot p fs k\/w.1.size<=k
theorem zcN(c:Cf)(G:c.ok)(H:xt c.s c.le c.la c.wi c.ke c.qu c.n c.F c.W c.K=true)(a:Option Addr)(cap B p:Nat)(fs:M)(w:N)(V:B<=w.1.size)(t:zv 111 113 B w p ZE fs)(z:∀w',zk (foot p fs) w w'->TS w' a c.n c.F c.W c.K)(g:XN w)(y:∀k,foot p fs k->k≠ZV):
  Calls prog 74 #[.agg #[O E c.s,O E c.le,O E c.la,O E c.wi,O E c.ke,O E c.qu,.slice a c.n cap],.pointer (Q ⟨p,0,I⟩)] w (zeK c p fs w):=by
 have v:=t.lt
 have T:=g.lt
 have o:∀k,foot p fs k->k<w.1.size:=fun k b=>by
  rcases b with rfl|b
  ·exact v
  ·exact vY t.row k b
 have R:=G.n4
 refine(VY c.s c.le c.la c.wi c.ke c.qu a c.n cap c.F c.W c.K (by omega) w p (foot p fs) o z
  (fun C r w'=>∃i:Ids,i.d=p/\C=Q ⟨i.x,0,I⟩/\r=0/\zB w' i c 1 ⟨0,[],[],0,[],[]⟩/\∀k,zT w' i k->foot p fs k\/w.1.size+3<=k)
  (fun C r A B b h=>?_) (fun U D X S=>?_)).mono ?_
 ·obtain⟨i,q,J,L,m,f⟩:=h
  have u:¬i.d=w.1.size+1:=by omega
  refine⟨i,q,J,L,m.kept b (fun k b e=>?_) (fun e=>?_),fun k j=>f k ?_⟩
  ·have e:k=w.1.size+1:=e
   rcases f k b with h|h
   ·have:=o k h;omega
   ·omega
  ·have e:ZV=w.1.size+1:=e
   omega
  ·unfold zT at j ⊢
   rw[jp b m.dlt u]at j
   exact j
 ·refine(zeT c G (Ki H) H (Q ⟨w.1.size+1,0,I⟩) (c.n+1) B p fs U (by omega) (t.later D) S (XI g D) y).mono ?_
  rintro e Z ⟨i,q,rfl,m,b,f⟩
  exact⟨_,_,rfl,b,i,q,rfl,rfl,m,fun k b=>(f k b).imp id (fun h=>by omega)⟩
 ·rintro e w' ⟨C,r,rfl,b,i,q,rfl,rfl,m,f⟩
  exact⟨i,q,rfl,m,b,fun k b=>(f k b).imp id (fun h=>by omega)⟩
theorem zbW:XH ZE (-1)=ZE:=by rfl
theorem zbD:zi ZE=false:=by rfl
theorem zcM(c:Cf)(a0:24*(c.n+1)<=281474976710656)(hr:xt c.s c.le c.la c.wi c.ke c.qu c.n c.F c.W c.K=false)(a:Option Addr)(cap wb:Nat)(w:N)(R:TS w a c.n c.F c.W c.K):
  Calls prog 33 #[.pointer (Q ⟨wb,0,I⟩),.agg #[O E c.s,O E c.le,O E c.la,O E c.wi,O E c.ke,O E c.qu,.slice a c.n cap],O E (-1)] w fun e w'=>e=.returned (.bool true)/\P w.1.size w w':=by
 have H:P w.1.size w (w.alloc (.cells #[O E c.s,O E c.le,O E c.la,O E c.wi,O E c.ke,O E c.qu,.slice a c.n cap] 27)):=(l _ _).alloc (Y _) _
 have T:=zd (CF.made w 27 (0,0) c.s c.le c.la c.wi c.ke c.qu a c.n cap)
 have U:Hid ((w.alloc (.cells #[O E c.s,O E c.le,O E c.la,O E c.wi,O E c.ke,O E c.qu,.slice a c.n cap] 27)).1.size=w.1.size+1):=zG w _
 have x:=zd H
 clear H
 go_enter func33,ntmps33
 go_wp2_with fail
 generalize(w.alloc (.cells #[O E c.s,O E c.le,O E c.la,O E c.wi,O E c.ke,O E c.qu,.slice a c.n cap] 27))=X at*
 refine(zeD 0 X (Nat.zero_le _)).mono ?_
 rintro e w1 ⟨rfl,J,D,Z⟩
 have q:=zd (zbV 0 _ ZE _ (-1) w1 J)
 rw[zbW]at q
 have v:=zd D
 clear Z D J
 go_wp2_with fail
 refine(ud q).mono ?_
 rintro e u ⟨rfl,t,L⟩
 have p:=zd (qP 0 _ ZE _ u t)
 rw[zbD]at p
 have o:zk (fun k=>k=X.1.size) X u:=(zk.of_below (f:=fun k=>k=X.1.size) (ud v)).trans L (fun i hi e=>by
  rcases e with e|e
  ·exact e
  ·cases e)
 have b:P X.1.size X u:=o.below (Y _) (fun k e=>by omega)
 have m:P w.1.size w u:=(ud x).trans (b.mono (ud x).size)
 have C:w.1.size<X.1.size:=by have:=ud U;omega
 have j:=zd ((ud T).below b C)
 obtain⟨_,c0,c1,c2,c3,c4,c5,c6⟩:=ud j
 have d:=zd m
 have y:=zd b
 have a1:=zd t
 clear L o t b m q v
 go_wp2_with fail
 refine(ud p).mono ?_
 rintro e V1 ⟨rfl,B⟩
 rw[B]
 clear B p
 have z:=zd (zeL c a0 hr a cap X.1.size u (R.below (ud d)))
 go_wp2_with fail
 refine(ud z).mono ?_
 rintro e w3 ⟨rfl,r⟩
 have g:=(ud d).trans (r.mono (ud d).size)
 have V:w.1.size<u.1.size:=Nat.lt_of_lt_of_le C (ud y).size
 obtain⟨_,d0,d1,d2,d3,d4,d5,d6⟩:=(ud j).below r V
 have A:=zd (Xy c.s c.le c.la c.wi c.ke c.qu a c.n cap c.F c.W c.K w3 (R.below g))
 rw[hr,show Zs false=1 from rfl]at A
 have h:=zd g
 clear r g z c0 c1 c2 c3 c4 c5 c6
 go_wp2_with fail
 refine(ud A).mono ?_
 rintro e w4 ⟨rfl,G⟩
 have S:=zd G
 clear G
 go_wp2_with fail
 go_ret
 exact⟨rfl,(ud h).trans ((ud S).mono (ud h).size)⟩
theorem ZH{w:N}{B:Nat}{e:TypeId}{size:Nat}{v:M}{n:Nat}{xs:List M}(h:w.ownsRow B e size v n xs){k:Nat}(a:v.ownBlock=Q k):B<=k:=by
 rcases h.2 with⟨rfl,_⟩|⟨g,cap,b,rfl,c,_⟩
 ·cases a
 ·cases a;exact c
theorem Tryz.infoPostP:(prog.info? 134).map (fun i=>(i.zero,i.size,i.bytes))=Q (Q (.pointer I),1,8):=by kernel_rfl
def zbA(w:N)(wb b:Nat)(pv c:M)(ps:List Nat)(w':N):Prop:=∃(p:PD) (a:M),p.at w'/\p.m=⟨0,[],[],0,[],[]⟩/\p.tg=[]/\p.ep=1/\w'.1[wb]?=Q (.cells #[a,c] 77 (0,0))/\w'.ownsRow b 134 1 a (ps.length+1) ((ps++[p.po]).map (fun q=> .pointer (Q ⟨q,0,I⟩)))/\(∀k,p.foot k->w.1.size<=k)/\zk (fun k=>k=wb\/pv.ownBlock=Q k) w w'/\∀k,a.ownBlock=Q k->pv.ownBlock=Q k\/w.1.size<=k
theorem QS(c:Cf)(hc:c.ok)(hr:xt c.s c.le c.la c.wi c.ke c.qu c.n c.F c.W c.K=true)(a:Option Addr)(cap wb:Nat)(w:N)(aV:TS w a c.n c.F c.W c.K)(af:XN w){pv lv:M}{ps:List Nat}(hw:w.1[wb]?=Q (.cells #[pv,lv] 77 (0,0))){Bp:Nat}(bb:Bp<=w.1.size)(ce:ZV<Bp/\Bp<=wb)(ad:w.ownsRow Bp 134 1 pv ps.length (ps.map (fun q=> .pointer (Q ⟨q,0,I⟩))))(c9:ps.length+1<=maxLen)(ca:(ps.length+1)*8<=140737488355328):
  Calls prog 33 #[.pointer (Q ⟨wb,0,I⟩),.agg #[O E c.s,O E c.le,O E c.la,O E c.wi,O E c.ke,O E c.qu,.slice a c.n cap],O E (-1)] w fun e w'=>e=.returned (.bool true)/\zbA w wb Bp pv lv ps w':=by
 obtain⟨pa,o,rfl⟩:=zm ad
 have cg:=zb hw
 have bu:¬(Value.slice pa ps.length o).ownBlock=Q wb:=fun e=>by
  obtain⟨bP,hc⟩:=zz ad e
  rw[hw]at hc
  injection hc with hc;injection hc with _ hc;exact absurd hc (by decide)
 have bM:Hid (¬ZV=wb):=fun e=>by omega
 have bL:Hid (¬(Value.slice pa ps.length o).ownBlock=Q ZV):=fun e=>by have:=ZH ad e;omega
 clear ce
 have HW:=zd hw
 have aH:=zd ad
 have bE:=zd bb
 have aw:=zd af
 have cn:=af.lt
 clear af
 clear bb
 clear hw ad
 have be:P w.1.size w (w.alloc (.cells #[O E c.s,O E c.le,O E c.la,O E c.wi,O E c.ke,O E c.qu,.slice a c.n cap] 27)):=(l _ _).alloc (Y _) _
 have bF:=zd (CF.made w 27 (0,0) c.s c.le c.la c.wi c.ke c.qu a c.n cap)
 have bN:Hid ((w.alloc (.cells #[O E c.s,O E c.le,O E c.la,O E c.wi,O E c.ke,O E c.qu,.slice a c.n cap] 27)).1.size=w.1.size+1):=zG w _
 have aY:=zd be
 clear be
 go_enter func33,ntmps33
 go_wp2_with fail
 generalize(w.alloc (.cells #[O E c.s,O E c.le,O E c.la,O E c.wi,O E c.ke,O E c.qu,.slice a c.n cap] 27))=X at*
 refine(zeD 0 X (Nat.zero_le _)).mono ?_
 rintro e w1 ⟨rfl,bg,bd,cc⟩
 have aK:=zd (zbV 0 _ ZE _ (-1) w1 bg)
 rw[zbW]at aK
 have aW:=zd bd
 clear cc bd bg
 go_wp2_with fail
 refine(ud aK).mono ?_
 rintro e w2 ⟨rfl,aO,bj⟩
 have aJ:=zd (qP 0 _ ZE _ w2 aO)
 rw[zbD]at aJ
 have aC:zk (fun k=>k=X.1.size) X w2:=(zk.of_below (f:=fun k=>k=X.1.size) (ud aW)).trans bj (fun i hi e=>by
  rcases e with e|e
  ·exact e
  ·cases e)
 have J:P X.1.size X w2:=aC.below (Y _) (fun k e=>by omega)
 have az:P w.1.size w w2:=(ud aY).trans (J.mono (ud aY).size)
 have aL:w.1.size<X.1.size:=by have:=ud bN;omega
 have ar:=zd ((ud bF).below J aL)
 obtain⟨_,c0,c1,c2,c3,c4,c5,c6⟩:=ud ar
 have D:=zd az
 have aZ:=zd J
 have bG:=zd aO
 clear bj aC aO J az aK aW
 go_wp2_with fail
 refine(ud aJ).mono ?_
 rintro e V1 ⟨rfl,bc⟩
 rw[bc]
 clear bc aJ
 have bA:w.1.size<=X.1.size:=Nat.le_of_lt aL
 have bz:w.1.size<=w2.1.size:=(ud D).size
 have b5:=zd (zcN c hc hr a cap 0 X.1.size (.slice I 0 0) w2 (Nat.zero_le _) (ud bG) (fun w' b=>aV.below ((ud D).trans (b.below bz (fun k e=>by
  rcases e with e|e
  ·omega
  ·cases e)))) (XI (ud aw) (ud D)) (fun k e=>by
  rcases e with e|e
  ·omega
  ·cases e))
 go_wp2_with fail
 refine(ud b5).mono ?_
 rintro e w3 ⟨i,bi,rfl,br,bk,aD⟩
 have aM:P X.1.size w2 w3:=bk.below (ud aZ).size (fun k e=>by
  rcases e with e|e
  ·omega
  ·cases e)
 have a6:P w.1.size w w3:=(ud D).trans (aM.mono bA)
 have a8:=(ud ar).below aM aL
 obtain⟨_,d0,d1,d2,d3,d4,d5,d6⟩:=id a8
 have aI:=zd (Xy c.s c.le c.la c.wi c.ke c.qu a c.n cap c.F c.W c.K w3 (aV.below a6))
 rw[hr,show Zs true=0 from rfl]at aI
 have aq:=zd a6
 have au:=zd a8
 have b2:=zd br
 have bH:=zd bi
 have b3:=zd aD
 clear br bi bk aD aM a6 a8 b5 c0 c1 c2 c3 c4 c5 c6
 go_wp2_with fail
 refine(ud aI).mono ?_
 rintro e m ⟨rfl,a5⟩
 have aA:=(ud aq).trans (a5.mono (ud aq).size)
 have bV:w.1.size<w3.1.size:=(ud au).1
 have a9:=(ud au).below a5 bV
 obtain⟨_,e0,e1,e2,e3,e4,e5,e6⟩:=id a9
 have aQ:=(ud b2).later a5
 have aN:P m.1.size m (m.alloc (zD i.x X.1.size c (.slice a c.n cap) (.slice I 0 0) (.slice I 0 0) 0)):=(l _ _).alloc (Y _) _
 have aj:=zd (zfI (aQ.later aN) hc (by decide) (by decide) c (zr m (zD i.x X.1.size c (.slice a c.n cap) (.slice I 0 0) (.slice I 0 0) 0)))
 rw[show decide ((0:Int)<1)=true from rfl]at aj
 have bD:=zd a5
 have a2:=zd aA
 have av:=zd a9
 have ai:=zd aQ
 have aX:=zd aN
 clear a5 aA a9 aQ aN aI d0 d1 d2 d3 d4 d5 d6
 unfold zD at aj
 go_wp2_with fail
 refine(ud aj).mono ?_
 rintro e U ⟨rfl,am,bl⟩
 have G:P m.1.size m U:=(ud aX).trans (bl.below (ud aX).size (fun k e=>by omega))
 have a7:P w.1.size w U:=(ud a2).trans (G.mono (ud a2).size)
 have bW:w.1.size<m.1.size:=(ud av).1
 have R:=(ud av).below G bW
 obtain⟨_,f0,f1,f2,f3,f4,f5,f6⟩:=id R
 obtain⟨-,-,-,-,-,-,-,-,-,-,-,-,bC,-⟩:=zc am
 have b9:=zd (Va c hc a cap 1 U.drew (aV.below a7.drew))
 have bX:w.1.size<U.1.size:=R.1
 have b0:=zd R
 have aF:=zb am
 have b6:=zd am
 have C:=zd G
 have a3:=zd a7
 clear am bl G a7 R aj e0 e1 e2 e3 e4 e5 e6
 go_wp2_with fail
 go_region_held3 (fun w'=>w'.cell? ⟨w.1.size,0,I⟩=Q (O E c.s)/\w'.cell? ⟨w.1.size,1,I⟩=Q (O E c.le)/\w'.cell? ⟨w.1.size,2,I⟩=Q (O E c.la)/\w'.cell? ⟨w.1.size,3,I⟩=Q (O E c.wi)/\w'.cell? ⟨w.1.size,4,I⟩=Q (O E c.ke)/\w'.cell? ⟨w.1.size,5,I⟩=Q (O E c.qu)/\w'.cell? ⟨w.1.size,6,I⟩=Q (.slice a c.n cap)/\w'.cell? ⟨m.1.size,12,I⟩=Q (O E 1)) (go_keep) (first
  |(go_at_call 77;refine(ud b9).mono ?_;rintro e w6 ⟨r,ap,rfl,ae,V⟩;have B:P U.1.size U w6:=⟨V.os,V.tape,V.output,V.size,V.block⟩;have b8:Hid (zQ U.1.size w6 r ⟨c,0,[],[],[],[],1,0⟩ ap (.slice I 0 0) (.slice I 0 0) (.slice I 0 0) (.slice I 0 0)):=ae;clear V ae;have ch:=(B.cell (p:=⟨m.1.size,12,I⟩) aF).trans bC;obtain⟨_,h0,h1,h2,h3,h4,h5,h6⟩:=(ud b0).below B bX;have a0:=zd B;clear B))
 have B:=ud a0
 have an:=(B.block m.1.size (zb (ud b6))).trans (ud b6)
 obtain⟨-,-,-,-,-,-,-,-,-,p9,-⟩:=zc an
 have bv:=zb an
 have aB:P w.1.size w w6:=(ud a3).trans (B.mono (ud a3).size)
 have bf:P w6.1.size w6 (w6.alloc (.cells #[.pointer (Q ⟨r,0,I⟩)] 138)):=(l _ _).alloc (Y _) _
 have cb:¬wb=m.1.size:=by omega
 have a4:=zd aB
 have aG:=zd bf
 clear aB bf
 have bq:0<1:=by decide
 have bY:0+1<=maxLen:=by simp[maxLen]
 have bZ:(0+1)*8<=140737488355328:=by omega
 have bJ:=zd an
 clear an B b9 bC ch f0 f1 f2 f3 f4 f5 f6 h0 h1 h2 h3 h4 h5 h6
 go_wp2_with(first|(at_builtin;refine zJ rfl _ _ 135 rfl 0 138 _ 1 8 underlying135 Tryz.infoRefP rfl (by decide) (.slice I 0 0) 0 [] rfl (World.ownsRow_nil _ _ _ _) ⟨w6.1.size,0,I⟩ 1 1 [.pointer (Q ⟨r,0,I⟩)] rfl rfl (World.news_of_block (cs:=#[.pointer (Q ⟨r,0,I⟩)]) (zr w6 _)) (by intro u hu;simp at hu;subst hu;rfl) bq bY bZ (Nat.zero_le _) ?_;intro y g v aa aR S ax cj;have bI:=zd aa;have H:P w6.1.size w6 v:=(ud aG).grown S (ud aG).size (fun k e=>by cases e);have L:P w.1.size w v:=(ud a4).trans (H.mono (ud a4).size);have ag:=(L.block wb cg).trans (ud HW);obtain⟨k0,-⟩:=zc ag;have kf:∀j,v.frozen? ⟨wb,j,I⟩=false:=(fun j=>zH ag j);have ac:=(H.block m.1.size bv).trans (ud bJ);obtain⟨-,-,-,-,-,-,-,-,-,k9,-⟩:=zc ac;have kp:∀j,v.frozen? ⟨m.1.size,j,I⟩=false:=(fun j=>zH ac j);have cm:=zb ac;have co:=zb ag;have cu:w6.1.size<=y:=(by rcases ax with h|h;cases h;rw[h];exact(ud aG).size);have bB:(v.setCell ⟨m.1.size,9,I⟩ (.slice (Q ⟨y,0,I⟩) 1 g)).1.size=v.1.size:=(by simp[World.setCell]);have bO:Hid (((v.setCell ⟨m.1.size,9,I⟩ (.slice (Q ⟨y,0,I⟩) 1 g)).alloc (.cells #[.pointer (Q ⟨m.1.size,0,I⟩)] 134)).1[v.1.size]?=Q (.cells #[.pointer (Q ⟨m.1.size,0,I⟩)] 134)):=(by have h:=zr (v.setCell ⟨m.1.size,9,I⟩ (.slice (Q ⟨y,0,I⟩) 1 g)) (.cells #[.pointer (Q ⟨m.1.size,0,I⟩)] 134);rw[bB]at h;exact h);have z:Hid (zk (fun k=>k=m.1.size) w ((v.setCell ⟨m.1.size,9,I⟩ (.slice (Q ⟨y,0,I⟩) 1 g)).alloc (.cells #[.pointer (Q ⟨m.1.size,0,I⟩)] 134))):=vh (zq (zk.of_below L) rfl) ((l _ _).alloc (Y _) _);have bK:Hid (((v.setCell ⟨m.1.size,9,I⟩ (.slice (Q ⟨y,0,I⟩) 1 g)).alloc (.cells #[.pointer (Q ⟨m.1.size,0,I⟩)] 134)).ownsRow Bp 134 1 (.slice pa ps.length o) ps.length (ps.map (fun q=> .pointer (Q ⟨q,0,I⟩)))):=zg (ud aH) (ud z) (fun k b e=>by have h:=vY (ud aH) k b;omega);clear bB;have a1:=zd H;have ci:=zd L;have ct:=zd ag;have b7:=zd ac;clear aa aR S ax H L ag ac)|(at_builtin;refine zJ rfl _ _ 74 rfl Bp 134 _ 1 8 underlying74 Tryz.infoPostP rfl (by decide) (.slice pa ps.length o) ps.length (ps.map (fun q=> .pointer (Q ⟨q,0,I⟩))) rfl (ud bK) ⟨v.1.size,0,I⟩ 1 1 [.pointer (Q ⟨m.1.size,0,I⟩)] rfl rfl (World.news_of_block (cs:=#[.pointer (Q ⟨m.1.size,0,I⟩)]) (ud bO)) (by intro u hu;simp at hu;subst hu;rfl) bq c9 ca (z0 (ud bE) (ud z).size) ?_;intro g8 A W8 ab aS T ay ck;have b4:=zd ab;have aP:zk (fun k=>(Value.slice pa ps.length o).ownBlock=Q k) ((v.setCell ⟨m.1.size,9,I⟩ (.slice (Q ⟨y,0,I⟩) 1 g)).alloc (.cells #[.pointer (Q ⟨m.1.size,0,I⟩)] 134)) W8:=(zk.refl _ _).grown T (fun k e _=>e);have bx:((v.setCell ⟨m.1.size,9,I⟩ (.slice (Q ⟨y,0,I⟩) 1 g)).alloc (.cells #[.pointer (Q ⟨m.1.size,0,I⟩)] 134)).1[wb]?=_:=(ud z).heap (ud HW) cb;have ah:=aP.heap bx bu;obtain⟨m0,-⟩:=zc ah;have mf:∀j,W8.frozen? ⟨wb,j,I⟩=false:=(fun j=>zH ah j);have cp:=zb ah;have b1:=zd aP;have ba:=zd ah;have bS:(Value.slice pa ps.length o).ownBlock=Q g8\/w.1.size<=g8:=(by rcases ay with h|h;exact .inl h;right;rw[h];exact(ud z).size);clear ab aS T ay aP bx ah)|go_in)
 have al:=((((ud ai).later (ud C)).later (ud a0)).later (ud a1))
 have bs:=(ud ai).later (ud C)
 have c7:=bs.later (ud a0)
 have c8:∀k,zT v i k->zT w3 i k:=fun k b=>((ud b2).flt.same (ud bD)).1 (((ud ai).flt.same (ud C)).1 ((bs.flt.same (ud a0)).1 ((c7.flt.same (ud a1)).1 b)))
 have ao:=(ud b8).later (ud a1)
 have cv:w.1.size<=m.1.size:=(ud a2).size
 have cw:w.1.size<=U.1.size:=(ud a3).size
 have cx:w.1.size<=w6.1.size:=(ud a4).size
 have cq:m.1.size<=U.1.size:=(ud C).size
 have cr:U.1.size<=w6.1.size:=(ud a0).size
 have aE:=al.not_post (ud b7)
 have bt:=al.ne_d aE
 have cd:(v.setCell ⟨m.1.size,9,I⟩ (.slice (Q ⟨y,0,I⟩) 1 g)).1[m.1.size]?=Q (zD i.x X.1.size c (.slice a c.n cap) (.slice (Q ⟨y,0,I⟩) 1 g) (.slice I 0 0) 1):=by
  have hq:=ud b7
  unfold zD at hq ⊢
  exact xi (i:=9) hq _
 have ak:zk (fun k=>k=m.1.size) v (v.setCell ⟨m.1.size,9,I⟩ (.slice (Q ⟨y,0,I⟩) 1 g)):=zq (zk.refl _ _) rfl
 have aT:∀k,jd r ap (.slice I 0 0) (.slice I 0 0) (.slice I 0 0) (.slice I 0 0) k->U.1.size<=k:=fun k b=>by
  rcases b with rfl|b|b|b|b|b
  ·exact ao.base
  ·exact ZH ao.trow b
  ·cases b
  ·cases b
  ·cases b
  ·cases b
 have cl:m.1.size<U.1.size:=aF
 have bR:PD.at ⟨m.1.size,X.1.size,r,i,c,.slice a c.n cap,.slice (Q ⟨y,0,I⟩) 1 g,.slice I 0 0,fsB (v.setCell ⟨m.1.size,9,I⟩ (.slice (Q ⟨y,0,I⟩) 1 g)) i.d,1,⟨0,[],[],0,[],[]⟩,[],0,U.1.size,⟨c,0,[],[],[],[],1,0⟩,ap,.slice I 0 0,.slice I 0 0,.slice I 0 0,.slice I 0 0⟩ (v.setCell ⟨m.1.size,9,I⟩ (.slice (Q ⟨y,0,I⟩) 1 g)):=by
  refine⟨cd,al.kept ak (fun k b e=>aE (e▸b)) (fun e=>?_),⟨(ud bH).symm,rfl,fun k b e=>by have h1:=ZH ao.trow b;have h2:=(ud ai).foot_lt k (.inl (.inr (.inl (.inr (.inl e)))));omega⟩,zg (ud bI) ak (fun k b e=>?_),World.ownsRow_nil _ _ _ _,ao.kept ak (fun k b e=>?_),(fun k e=>by cases e),qB.new hc (Ki hr),(fun t ht=>by cases ht),(fun k b e=>?_)⟩
  ·have e:ZV=m.1.size:=e
   omega
  ·have hg:y=k:=Option.some.inj b;omega
  ·have:=aT k b;omega
  ·rcases b with b|b|b|b|b
   ·have:k=m.1.size:=b;omega
   ·exact b
   ·have hg:y=k:=Option.some.inj b;omega
   ·cases b
   ·have:=aT k b;omega
 have bh:∀k,PD.foot ⟨m.1.size,X.1.size,r,i,c,.slice a c.n cap,.slice (Q ⟨y,0,I⟩) 1 g,.slice I 0 0,fsB (v.setCell ⟨m.1.size,9,I⟩ (.slice (Q ⟨y,0,I⟩) 1 g)) i.d,1,⟨0,[],[],0,[],[]⟩,[],0,U.1.size,⟨c,0,[],[],[],[],1,0⟩,ap,.slice I 0 0,.slice I 0 0,.slice I 0 0,.slice I 0 0⟩ k->w.1.size<=k:=fun k b=>by
  rcases b with b|b|b|b|b|b
  ·have bT:zT v i k:=by
    rcases b with b|b
    ·exact .inl b
    ·exact .inr ((jp ak al.dlt bt).symm.trans b)
   rcases ud b3 k (c8 k bT)with h|h
   ·rcases h with h|h
    ·rw[h];exact bA
    ·cases h
   ·exact z0 bz h
  ·have:k=m.1.size:=b;omega
  ·exact b.elim
  ·have hg:y=k:=Option.some.inj b;omega
  ·cases b
  ·have:=aT k b;omega
 have bw:=fun k b=>vY (ud aH) k b
 have bo:zk (fun k=>k=wb\/(Value.slice pa ps.length o).ownBlock=Q k) (v.setCell ⟨m.1.size,9,I⟩ (.slice (Q ⟨y,0,I⟩) 1 g)) ((v.setCell ⟨m.1.size,9,I⟩ (.slice (Q ⟨y,0,I⟩) 1 g)).alloc (.cells #[.pointer (Q ⟨m.1.size,0,I⟩)] 134)):=zk.of_below ((l _ _).alloc (Y _) _)
 have bm:zk (fun k=>k=wb\/(Value.slice pa ps.length o).ownBlock=Q k) (v.setCell ⟨m.1.size,9,I⟩ (.slice (Q ⟨y,0,I⟩) 1 g)) W8:=bo.trans (ud b1) (fun k _ h=> .inr h)
 have bn:zk (fun k=>k=wb\/(Value.slice pa ps.length o).ownBlock=Q k) (v.setCell ⟨m.1.size,9,I⟩ (.slice (Q ⟨y,0,I⟩) 1 g)) (W8.setCell ⟨wb,0,I⟩ (.slice (Q ⟨g8,0,I⟩) (ps.length+1) A)):=zq bm (.inl rfl)
 have bU:zk (fun k=>k=wb\/(Value.slice pa ps.length o).ownBlock=Q k) w ((v.setCell ⟨m.1.size,9,I⟩ (.slice (Q ⟨y,0,I⟩) 1 g)).alloc (.cells #[.pointer (Q ⟨m.1.size,0,I⟩)] 134)):=⟨(ud z).os,(ud z).tape,(ud z).output,(ud z).size,fun k b _=>(ud z).block k b (by omega)⟩
 have bp:zk (fun k=>k=wb\/(Value.slice pa ps.length o).ownBlock=Q k) w (W8.setCell ⟨wb,0,I⟩ (.slice (Q ⟨g8,0,I⟩) (ps.length+1) A)):=zq (bU.trans (ud b1) (fun k _ h=> .inr h)) (.inl rfl)
 have aU:(W8.setCell ⟨wb,0,I⟩ (.slice (Q ⟨g8,0,I⟩) (ps.length+1) A)).ownsRow Bp 134 1 (.slice (Q ⟨g8,0,I⟩) (ps.length+1) A) (ps.length+1) (ps.map (fun q=> .pointer (Q ⟨q,0,I⟩))++[.pointer (Q ⟨m.1.size,0,I⟩)]):=zg (ud b4) (zq (f:=fun k=>k=wb) (zk.refl _ _) rfl) (fun k b e=>by
  obtain⟨bP,Z⟩:=zz (ud b4) b
  have hq:=ud ba
  rw[e,hq]at Z
  injection Z with Z;injection Z with _ Z;exact absurd Z (by decide))
 have bQ:=bR.kept bn (fun k b e=>by
  have h1:=bh k b
  rcases e with e|e
  ·omega
  ·have:=bw k e;omega) (fun e=>by
  have h9:=ud aw
  rcases e with e|e
  ·exact ud bM e
  ·exact ud bL e)
 have cf:=xi (i:=0) (ud ba) (.slice (Q ⟨g8,0,I⟩) (ps.length+1) A)
 go_ret
 exact⟨rfl,_,_,bQ,rfl,rfl,rfl,cf,by rw[List.map_append];exact aU,bh,bp,fun k b=>by have hg:g8=k:=Option.some.inj b;rw[<-hg];exact bS⟩
def jD(p:PD)(w w':N):Prop:=∃a:PD,a.at w'/\a.po=p.po/\a.ep=p.ep/\a.tg.length<=p.tg.length+1/\a.m.num<=p.m.num+1/\(∀k,a.foot k->p.foot k\/w.1.size<=k)/\zk p.foot w w'
def zcd(p:PD)(R:RM)(J:Tk)(C:Int)(b:Tk)(a:Int)(m':MS):Prop:=b=J/\a=C/\qB p.c p.ep m' R/\m'.num<=p.m.num+1
theorem zkv(p:PD){w:N}(h:p.at w)(o:Ops)(U: -9223372036854775808<=o.a/\o.a<=9223372036854775807)(T:(⟨o.te,o.tn⟩:Tok).wf)(W:p.tg.length<=1099511627776)(hv: -2147483648<=o.v/\o.v<=2147483647):
  Calls prog 80 #[.pointer (Q ⟨p.po,0,I⟩),.agg #[O E 2,O E o.on,O E o.a,O E o.b,O E o.c,O i32 o.v,O E o.te,O E o.tn,O E o.fs,O E o.fe,O E o.fb,O E o.fw,O E o.fk,O E o.fq,.slice o.fa o.fn o.fc]] w fun e w'=>e=.returned (.bool true)/\jD p w w':=by
 obtain⟨t,ht,C⟩:=Jw p.tg {o with kd:=2} U T h.twf W
 refine(YE p h o 2 rfl t (fun V s=>C V p.po p.i.x p.d p.c p.ct p.mv p.td p.ep (h.later s).head (h.later s).told) (zcd p (p.rm.ingest o.a o.b o.v).1 zdE (p.rm.ingest o.a o.b o.v).2) (fun V s=>?_) ?_ ?_).mono ?_
 ·have n:=h.later s
  have y:∀X,P V.1.size V X->Calls prog 27 #[.pointer (Q ⟨p.i.x,0,I⟩),O E o.a,O E o.b,O i32 o.v] X fun e m=>∃(f:Int) (m':MS),e=.returned (O E f)/\zB m p.i p.c p.ep m'/\Kx p.i X m/\zcd p (p.rm.ingest o.a o.b o.v).1 zdE (p.rm.ingest o.a o.b o.v).2 zdE f m':=fun X r=>by
   have S:=(n.later r).mill
   refine(zgo S h.sim o.a o.b o.v hv).mono fun e m ⟨m',j,u,g,k,L⟩=>?_
   exact⟨_,m',j,u,g,rfl,rfl,k,L⟩
  have D:=zgc p.c n.head (n.apart _ (.inl rfl)) n.mill.flt {o with te:=t.ep,tn:=t.num} t.ep t.num (fun f m'=>zcd p (p.rm.ingest o.a o.b o.v).1 zdE (p.rm.ingest o.a o.b o.v).2 zdE f m') y
  exact D.mono fun e m ⟨f,m',j,u,g,k⟩=>⟨zdE,f,m',j,u,g,k⟩
 ·rintro A f m' ⟨rfl,rfl,g,k⟩
  refine⟨_,g,fun B q V tv nv pv gv kv z hap R=>?_⟩
  exact zjI z {o with te:=t.ep,tn:=t.num} t.ep t.num (fun X r=>zff (z.later r) hap (z0 R r.size) h.sim o.a o.b o.v hv)
 ·rintro A f m' ⟨rfl,rfl,g,k⟩
  exact zky _ _ _ _
 ·rintro e w' ⟨j,Z,F,G,a3,a4,a5,H,⟨A,f,J⟩,K,a9⟩
  exact⟨j,Z,F,G,a5,H,J.2.2.2,K,a9⟩
theorem zkw(p:PD){w:N}(h:p.at w)(o:Ops)(z: -9223372036854775808<=o.a/\o.a<=9223372036854775807)(U:(⟨o.te,o.tn⟩:Tok).wf)(W:p.tg.length<=1099511627776):
  Calls prog 80 #[.pointer (Q ⟨p.po,0,I⟩),.agg #[O E 3,O E o.on,O E o.a,O E o.b,O E o.c,O i32 o.v,O E o.te,O E o.tn,O E o.fs,O E o.fe,O E o.fb,O E o.fw,O E o.fk,O E o.fq,.slice o.fa o.fn o.fc]] w fun e w'=>e=.returned (.bool true)/\jD p w w':=by
 obtain⟨t,ht,D⟩:=Jw p.tg {o with kd:=3} z U h.twf W
 refine(YE p h o 3 rfl t (fun V s=>D V p.po p.i.x p.d p.c p.ct p.mv p.td p.ep (h.later s).head (h.later s).told) (zcd p (p.rm.tickL o.a).1 zdE (p.rm.tickL o.a).2) (fun V s=>?_) ?_ ?_).mono ?_
 ·have n:=h.later s
  have y:∀X,P V.1.size V X->Calls prog 26 #[.pointer (Q ⟨p.i.x,0,I⟩),O E o.a] X fun e m=>∃(f:Int) (m':MS),e=.returned (O E f)/\zB m p.i p.c p.ep m'/\Kx p.i X m/\zcd p (p.rm.tickL o.a).1 zdE (p.rm.tickL o.a).2 zdE f m':=fun X r=>by
   have T:=(n.later r).mill
   refine(zfJ T h.sim o.a).mono fun e m ⟨m',j,u,g,k,R⟩=>?_
   exact⟨_,m',j,u,g,rfl,rfl,k,R⟩
  have F:=zgd p.c n.head (n.apart _ (.inl rfl)) n.mill.flt {o with te:=t.ep,tn:=t.num} t.ep t.num (fun f m'=>zcd p (p.rm.tickL o.a).1 zdE (p.rm.tickL o.a).2 zdE f m') y
  exact F.mono fun e m ⟨f,m',j,u,g,k⟩=>⟨zdE,f,m',j,u,g,k⟩
 ·rintro C f m' ⟨rfl,rfl,g,k⟩
  refine⟨_,g,fun B q V tv nv pv gv kv A hap S=>?_⟩
  exact zjJ A {o with te:=t.ep,tn:=t.num} t.ep t.num (fun X r=>zdm (A.later r) hap (z0 S r.size) h.sim o.a z)
 ·rintro C f m' ⟨rfl,rfl,g,k⟩
  exact zkh _ _
 ·rintro e w' ⟨j,Z,G,H,a3,a4,a5,J,⟨C,f,K⟩,L,a9⟩
  exact⟨j,Z,G,H,a5,J,K.2.2.2,L,a9⟩
theorem PD.at.asked{p:PD}{w Z:N}(h:p.at w)(b:p.at Z)(B:w.1.size<=Z.1.size){g cap:Nat}(A:w.1.size<=g)(j:Z.ownsRow 0 138 1 (.slice (Q ⟨g,0,I⟩) 1 cap) 1 [.pointer (Q ⟨p.r,0,I⟩)]):
  ∃n:PD,n.at (Z.setCell ⟨p.po,9,I⟩ (.slice (Q ⟨g,0,I⟩) 1 cap))/\n.po=p.po/\n.ep=p.ep/\n.tg=p.tg/\n.m=p.m/\(∀k,n.foot k->p.foot k\/w.1.size<=k)/\zk (fun k=>k=p.po) Z (Z.setCell ⟨p.po,9,I⟩ (.slice (Q ⟨g,0,I⟩) 1 cap)):=by
 have f:zk (fun k=>k=p.po) Z (Z.setCell ⟨p.po,9,I⟩ (.slice (Q ⟨g,0,I⟩) 1 cap)):=zq (zk.refl _ _) rfl
 have t:(Z.setCell ⟨p.po,9,I⟩ (.slice (Q ⟨g,0,I⟩) 1 cap)).1[p.po]?=Q (zD p.i.x p.d p.c p.ct (.slice (Q ⟨g,0,I⟩) 1 cap) p.td p.ep):=by
  have v:=b.head
  unfold zD at v ⊢
  exact xi (i:=9) v _
 have z:=zb h.head
 have y:=h.foot_lt
 have o:=b.apart p.po (.inl rfl)
 have s:∀k,jd p.r p.rt p.nv p.pv p.gv p.kv k->¬k=p.po:=fun k a e=>by
  subst e
  have u:=b.head
  unfold zD at u
  rcases a with a|a|a|a|a|a
  ·have:=b.ref.head;rw[<-a,u]at this;injection this with this;injection this with _ this;exact absurd this (by decide)
  ·exact qd b.head b.ref.trow (by decide) a
  ·exact qd b.head b.ref.nrow (by decide) a
  ·exact qd b.head b.ref.prow (by decide) a
  ·exact qd b.head b.ref.grow (by decide) a
  ·exact qd b.head b.ref.krow (by decide) a
 refine⟨⟨p.po,p.d,p.r,p.i,p.c,p.ct,.slice (Q ⟨g,0,I⟩) 1 cap,p.td,p.fs,p.ep,p.m,p.tg,p.B0,p.B1,p.rm,p.rt,p.nv,p.pv,p.gv,p.kv⟩,⟨t,b.mill.kept f (fun k a e=>o (by rw[<-e];exact a)) (fun e=>b.nt p.po (.inl rfl) e.symm),⟨b.disk.1,(jp f b.mill.dlt (b.mill.ne_d o)).trans b.disk.2.1,b.disk.2.2⟩,zg j f (fun k a e=>by subst e;exact qd b.head j (by decide) a),zg b.told f (fun k a e=>by subst e;exact qd b.head b.told (by decide) a),b.ref.kept f (fun k a e=>s k a e),b.hap,b.sim,b.twf,fun k a=>?_⟩,rfl,rfl,rfl,rfl,fun k a=>?_,f⟩
 ·rcases a with a|a|a|a|a
  ·exact b.nt k (.inl a)
  ·exact a.elim
  ·have q:g=k:=Option.some.inj a
   exact fun e=>by have:=h.mill.tab.lt;omega
  ·exact b.nt k (.inr (.inr (.inr (.inl a))))
  ·exact b.nt k (.inr (.inr (.inr (.inr a))))
 ·rcases a with a|a|a|a|a|a
  ·exact .inl (.inl a)
  ·exact .inl (.inr (.inl a))
  ·exact .inl (.inr (.inr (.inl a)))
  ·have q:g=k:=Option.some.inj a
   exact .inr (by omega)
  ·exact .inl (.inr (.inr (.inr (.inr (.inl a)))))
  ·exact .inl (.inr (.inr (.inr (.inr (.inr a)))))
theorem zkt(p:PD){w:N}(h:p.at w)(wb:Nat)(o:Ops):
  Calls prog 81 #[.pointer (Q ⟨wb,0,I⟩),.pointer (Q ⟨p.po,0,I⟩),.agg #[O E 5,O E o.on,O E o.a,O E o.b,O E o.c,O i32 o.v,O E o.te,O E o.tn,O E o.fs,O E o.fe,O E o.fb,O E o.fw,O E o.fk,O E o.fq,.slice o.fa o.fn o.fc]] w fun e w'=>e=.returned (.bool true)/\jD p w w':=by
 obtain⟨j,q,n⟩:=h.sim.stats
 have A:=h.sim.ubound
 have z:=h.sim.sok.ok.seg.len400 h.sim.ok
 refine(JQ (wb:=wb) h.head h.may o (now:=p.m.now) (U:=zU p.m.L) (T:=yi (vK (zU p.m.L) p.c.qu)) (A1:=xy p.m.L 1) (A2:=xy p.m.L 2) (A3:=xy p.m.L 3) (A4:=p.m.Gl.length) (fun V d=>K0 (h.later d).mill h.sim.ok (by omega) (by omega)) (fun V d=>?_)).mono ?_
 ·have D:=h.sim.len;have F:=h.sim.glen;have G:=h.sim.plen
  refine(zfs (h.later d).ref h.sim.hokr (by omega) (by omega) (by omega) h.sim.nu (by omega)).mono fun e C ⟨i,x⟩=>⟨?_,x⟩
  rw[i,j,q,n,h.sim.tie.now,h.sim.epo]
 ·rintro e w' ⟨i,Z,g,cap,rfl,d,f,y⟩
  obtain⟨B,r,s,a3,a4,a5,t,u⟩:=h.asked (h.later d) d.size y f
  exact⟨i,B,r,s,a3,by rw[a4];omega,by rw[a5];omega,t,((zk.of_below d).trans u (fun k _ e=> .inr (.inl e)))⟩
theorem zks(p:PD){w:N}(h:p.at w)(wb:Nat)(o:Ops):
  Calls prog 81 #[.pointer (Q ⟨wb,0,I⟩),.pointer (Q ⟨p.po,0,I⟩),.agg #[O E 4,O E o.on,O E o.a,O E o.b,O E o.c,O i32 o.v,O E o.te,O E o.tn,O E o.fs,O E o.fe,O E o.fb,O E o.fw,O E o.fk,O E o.fq,.slice o.fa o.fn o.fc]] w fun e w'=>e=.returned (.bool true)/\jD p w w':=by
 have d:∀(Q1 Q2 Q3 Q4 t:Int),(∀V,P w.1.size w V->Calls prog 57 #[.pointer (Q ⟨p.i.x,0,I⟩),O E o.a,O E o.b,O E o.c] V fun e m=>e=.returned (.tuple #[.agg #[O E Q1,O E Q2,O i32 Q3,O i32 Q4],O E t])/\P V.1.size V m)->(∀V,P w.1.size w V->Calls prog 144 #[.pointer (Q ⟨p.r,0,I⟩),O E o.a,O E o.b,O E o.c] V fun e m=>e=.returned (.tuple #[.agg #[O E Q1,O E Q2,O i32 Q3,O i32 Q4],O E t])/\P V.1.size V m)->Calls prog 81 #[.pointer (Q ⟨wb,0,I⟩),.pointer (Q ⟨p.po,0,I⟩),.agg #[O E 4,O E o.on,O E o.a,O E o.b,O E o.c,O i32 o.v,O E o.te,O E o.tn,O E o.fs,O E o.fe,O E o.fb,O E o.fw,O E o.fk,O E o.fq,.slice o.fa o.fn o.fc]] w fun e w'=>e=.returned (.bool true)/\jD p w w':=fun Q1 Q2 Q3 Q4 t y z=>by
  refine(JP (wb:=wb) h.head h.may o y z).mono ?_
  rintro e w' ⟨q,Z,g,cap,rfl,j,s,F⟩
  obtain⟨G,A,B,a3,a4,a5,C,D⟩:=h.asked (h.later j) j.size F s
  exact⟨q,G,A,B,a3,by rw[a4];omega,by rw[a5];omega,C,((zk.of_below j).trans D (fun k _ e=> .inr (.inl e)))⟩
 have H:=h.sim.len;have J:=h.sim.glen;have K:=h.sim.plen
 by_cases j:o.a< -1\/p.c.n<=o.a\/o.b<0\/4<=o.b\/o.c<0\/100000<o.c
 ·refine d 0 0 0 0 2 (fun V f=>zcE (h.later f).mill h.sim.ok o.a o.b o.c j) (fun V f=>?_)
  refine(Kk (h.later f).ref h.sim.hokr (by omega) (by omega) (by omega) h.sim.nu h.sim.time o.a o.b o.c).mono fun e m ⟨q,u⟩=>⟨?_,u⟩
  rw[q,kB (by rw[h.sim.tie.hc];exact j)]
  rfl
 ·refine d _ _ _ _ _ (fun V f=>zcD (h.later f).mill h.sim.ok h.sim.sok.ok.now o.a o.b o.c (by omega) (by omega) (by omega)) (fun V f=>?_)
  refine(Kk (h.later f).ref h.sim.hokr (by omega) (by omega) (by omega) h.sim.nu h.sim.time o.a o.b o.c).mono fun e m ⟨q,u⟩=>⟨?_,u⟩
  rw[q,h.sim.query (by rw[h.sim.tie.hc];exact j)]
  rfl
def zdD(t:TypeId):Prop:=t=77\/t=134\/t=55\/t=51
theorem PD.at.not_law{p:PD}{w:N}(h:p.at w){k:Nat}{cs:Array M}{t:TypeId}(g:w.1[k]?=Q (.cells cs t (0,0)))(i:zdD t):¬p.foot k:=fun a=>by
 have no:∀c d,w.1[k]?=Q (.cells c d (0,0))->¬zdD d->False:=fun c d b n=>by
  rw[g]at b;injection b with b;injection b with _ b;exact n (b▸i)
 have row:∀{B size n:Nat} {e:TypeId} {v:M} {xs:List M},w.ownsRow B e size v n xs->v.ownBlock=Q k->¬zdD e->False:=fun o hv n=>by
  obtain⟨j,m⟩:=zz o hv;exact no _ _ m n
 rcases a with a|a|a|a|a|a
 ·refine h.mill.tag g ?_ (h.mft.1 a)
  rcases i with rfl|rfl|rfl|rfl<;>decide
 ·subst a;have f:=h.head;unfold zD at f;exact no _ _ f (by unfold zdD;decide)
 ·exact a.elim
 ·exact row h.may a (by unfold zdD;decide)
 ·exact row h.told a (by unfold zdD;decide)
 ·rcases a with a|a|a|a|a|a
  ·subst a;exact no _ _ h.ref.head (by unfold zdD;decide)
  ·exact row h.ref.trow a (by unfold zdD;decide)
  ·exact row h.ref.nrow a (by unfold zdD;decide)
  ·exact row h.ref.prow a (by unfold zdD;decide)
  ·exact row h.ref.grow a (by unfold zdD;decide)
  ·exact row h.ref.krow a (by unfold zdD;decide)
theorem PD.at.ntab{p:PD}{w:N}(h:p.at w):¬p.foot ZV:=fun e=>e.elim (fun e=>h.mill.tn _ (h.mft.1 e) rfl) (fun e=>h.nt _ e rfl)
theorem Yq.kept{f:Nat->Prop}{B:Nat}{w w':N}{i:M}{g:List M}{q:Nat}(h:Yq B w i g q)(e:zk f w w')(hn:∀k cs t,w.1[k]?=Q (.cells cs t (0,0))->(t=55\/t=51)->¬f k):Yq B w' i g q:=
 ⟨zg h.row e (fun k b=>by obtain⟨a,c⟩:=zz h.row b;exact hn _ _ _ c (.inl rfl)),h.four,fun j v o=>by
  obtain⟨n,m,d⟩:=h.marks j v o
  exact⟨n,m,zg d e (fun k b=>by obtain⟨a,c⟩:=zz d b;exact hn _ _ _ c (.inr rfl))⟩⟩
structure Inv(B:Nat)(w:N)(wb:Nat)(pv lv:M)(ps:List PD)(kn:List M)(q:Nat):Prop where
 head:w.1[wb]?=Q (.cells #[pv,lv] 77 (0,0))
 row:w.ownsRow B 134 1 pv (ps.map PD.po).length ((ps.map PD.po).map (fun q=> .pointer (Q ⟨q,0,I⟩)))
 lists:Yq B w lv kn q
 all:∀p∈ps,p.at w/\(∀k,p.foot k->B<=k)/\p.ep=1
 apart:ps.Pairwise (fun p q=>∀k,p.foot k->¬q.foot k)
 tb:ZV<B/\B<=wb
theorem Inv.later{B:Nat}{w w':N}{wb:Nat}{pv d:M}{ps:List PD}{c:List M}{q:Nat}(h:Inv B w wb pv d ps c q)(a:P w.1.size w w'):Inv B w' wb pv d ps c q:=
 ⟨(a.block wb (zb h.head)).trans h.head,zg h.row (zk.of_below (f:=fun _=>False) a) (fun _ _ e=>e),h.lists.later a,fun p b=>⟨(h.all p b).1.later a,(h.all p b).2⟩,h.apart,h.tb⟩
theorem Inv.upd{B:Nat}{w w':N}{wb:Nat}{pv A:M}{n o:List PD}{p j:PD}{x:List M}{q:Nat}(h:Inv B w wb pv A (n++p::o) x q){S:Nat}(G:B<=S)(v:∀z∈n++p::o,∀k,z.foot k->k<S)(s:j.at w')(L:j.po=p.po)(J:j.ep=p.ep)(g:∀k,j.foot k->p.foot k\/S<=k)(m:zk p.foot w w'):Inv B w' wb pv A (n++j::o) x q:=by
 have i:=h.all p (by simp)
 have hap:=h.apart
 rw[List.pairwise_append,List.pairwise_cons]at hap
 obtain⟨C,⟨u,a3⟩,a4⟩:=hap
 have F:(n++j::o).map PD.po=(n++p::o).map PD.po:=by simp[L]
 refine⟨m.heap h.head (i.1.not_law h.head (.inl rfl)),?_,?_,?_,?_,h.tb⟩
 ·rw[F]
  exact zg h.row m (fun k H=>by obtain⟨D,r⟩:=zz h.row H;exact i.1.not_law r (.inr (.inl rfl)))
 ·exact h.lists.kept m (fun k cs t r R=>i.1.not_law r (R.elim (fun e=> .inr (.inr (.inl e))) (fun e=> .inr (.inr (.inr e)))))
 ·intro z a
  rcases List.mem_append.1 a with a|a
  ·have f:=h.all z (by simp[a])
   exact⟨f.1.kept m (fun k g=>a4 z a p (by simp) k g) i.1.ntab,f.2⟩
  ·rcases List.mem_cons.1 a with rfl|a
   ·refine⟨s,fun k b=>?_,J.trans i.2.2⟩
    rcases g k b with b|b
    ·exact i.2.1 k b
    ·omega
   ·have f:=h.all z (by simp[a])
    exact⟨f.1.kept m (fun k g K=>u z a k K g) i.1.ntab,f.2⟩
 ·rw[List.pairwise_append,List.pairwise_cons]
  refine⟨C,⟨fun z a k c d=>?_,a3⟩,fun z a y f=>?_⟩
  ·have:=v z (by simp[a]) k d
   rcases g k c with b|b
   ·exact u z a k b d
   ·omega
  ·rcases List.mem_cons.1 f with rfl|f
   ·intro k c d
    have:=v z (by simp[a]) k c
    rcases g k d with b|b
    ·exact a4 z a p (by simp) k c b
    ·omega
   ·exact a4 z a y (by simp[f])
theorem Inv.more{B:Nat}{w w':N}{wb:Nat}{pv s:M}{ps:List PD}{x:List M}{q:Nat}(h:Inv B w wb pv s ps x q)(V:B<=w.1.size)(R:zbA w wb B pv s (ps.map PD.po) w'):∃p d,Inv B w' wb d s (ps++[p]) x q/\p.tg=[]/\p.m.num=0/\zk (fun k=>k=wb\/pv.ownBlock=Q k) w w':=by
 obtain⟨p,d,C,D,F,G,H,J,v,j,U⟩:=R
 have f:∀k,k=wb\/pv.ownBlock=Q k->∃cs t,w.1[k]?=Q (.cells cs t (0,0))/\(t=77\/t=134):=fun k e=>by
  rcases e with rfl|e
  ·exact⟨_,_,h.head,.inl rfl⟩
  ·obtain⟨A,n⟩:=zz h.row e;exact⟨_,_,n,.inr rfl⟩
 refine⟨p,d,⟨H,by simpa using J,h.lists.kept j (fun k cs t n S e=>?_),fun z c=>?_,?_,h.tb⟩,F,by rw[D],j⟩
 ·obtain⟨i,T,a,b⟩:=f k e
  rw[n]at a;injection a with a;injection a with _ a
  subst a
  rcases S with rfl|rfl<;>rcases b with u|u<;>exact absurd u (by decide)
 ·rcases List.mem_append.1 c with c|c
  ·have g:=h.all z c
   refine⟨g.1.kept j (fun k K e=>?_) (fun e=>e.elim (fun e=>by have:=h.tb;omega) (fun e=>by have:=ZH h.row e;have:=h.tb;omega)),g.2⟩
   obtain⟨i,T,a,b⟩:=f k e
   exact g.1.not_law a (b.elim .inl (fun e=> .inr (.inl e))) K
  ·obtain rfl:=List.mem_singleton.1 c
   exact⟨C,fun k L=>by have:=v k L;omega,G⟩
 ·rw[List.pairwise_append]
  refine⟨h.apart,List.pairwise_singleton _ _,fun z c y g k o r=>?_⟩
  obtain rfl:=List.mem_singleton.1 g
  have:=(h.all z c).1.foot_lt k o
  have:=v k r
  omega
def Xp(w:N)(k:Nat)(W:N):Prop:=∃pv b ps a q,Inv w.1.size W w.1.size pv b ps a q/\ps.length<=k/\q<=k/\(∀p∈ps,p.tg.length<=k/\p.m.num<=(k:Int))/\P w.1.size w W
theorem zit{p:PD}{w:N}(h:p.at w):w.cell? ⟨p.po,14,I⟩=Q (.bool false):=by
 have a:=h.head
 unfold zD at a
 rw[xd a];rfl
theorem zjN{W:N}{a:Nat}(h:W.1[a]?=Q (.cells #[O E (-1),O E 1,O E 0] 80 (0,0))):TS W (Q ⟨a,0,I⟩) 1 (fun _=> -1) (fun _=>1) (fun _=>0):=fun _=>by
 refine⟨a,0,rfl,zb h,fun i b=>?_⟩
 obtain rfl:i=0:=by omega
 exact⟨by rw[xd h];rfl,by rw[xd h];rfl,by rw[xd h];rfl⟩
theorem Je:xt 1 1 0 1 0 9 1 (fun _=> -1) (fun _=>1) (fun _=>0)=true:=by decide
theorem Xp.later{w W a:N}{k:Nat}(h:Xp w k W)(b:P W.1.size W a):Xp w k a:=by
 obtain⟨pv,j,ps,i,q,d,e,f,g,c⟩:=h
 exact⟨pv,j,ps,i,q,d.later b,e,f,g,c.trans (b.mono c.size)⟩
theorem Xp.next{w W:N}{k:Nat}(h:Xp w k W):Xp w (k+1) W:=by
 obtain⟨pv,f,ps,e,q,a,g,i,d,b⟩:=h
 exact⟨pv,f,ps,e,q,a,by omega,by omega,fun p c=>by have:=d p c;omega,b⟩
theorem XZ{w W w':N}{k:Nat}{pv n:M}{b c:List PD}{p:PD}{i:List M}{q:Nat}(h:Inv w.1.size W w.1.size pv n (b++p::c) i q)(u:(b++p::c).length<=k)(B:q<=k)(f:∀z∈b++p::c,z.tg.length<=k/\z.m.num<=(k:Int))(d:P w.1.size w W)(x:jD p W w'):Xp w (k+1) w':=by
 obtain⟨A,o,r,a3,a4,a5,s,g⟩:=x
 have v:=h.all p (by simp)
 have y:=f p (by simp)
 refine⟨pv,n,b++A::c,i,q,h.upd d.size (fun z a k t=>(h.all z a).1.foot_lt k t) o r a3 s g,by simp at u ⊢;omega,by omega,fun z a=>?_,d.trans (g.below d.size (fun j e=>v.2.1 j e))⟩
 rcases List.mem_append.1 a with a|a
 ·have:=f z (by simp[a]);omega
 ·rcases List.mem_cons.1 a with rfl|a
  ·omega
  ·have:=f z (by simp[a]);omega
theorem zct{w W:N}{k:Nat}(o:Ops)(A:o.fits)(F g K:Nat->Int)(d:XN w)(n:TS w o.fa o.fn F g K)(H:k+1<=1099511627776)(s:Xp w k W):
  Calls prog 33 #[.pointer (Q ⟨w.1.size,0,I⟩),.agg #[O E o.fs,O E o.fe,O E o.fb,O E o.fw,O E o.fk,O E o.fq,.slice o.fa o.fn o.fc],O E (-1)] W fun e w'=>e=.returned (.bool true)/\Xp w (k+1) w':=by
 have i:=s
 obtain⟨pv,G,ps,D,q,b,J,L,C,a⟩:=s
 have c:=n.below a
 cases m:xt o.fs o.fe o.fb o.fw o.fk o.fq o.fn F g K with
 |false=>
  exact(zcM ⟨o.fs,o.fe,o.fb,o.fw,o.fk,o.fq,o.fn,F,g,K⟩ A.size m o.fa o.fc w.1.size W c).mono fun e w' ⟨h,t⟩=>⟨h,(i.later t).next⟩
 |true=>
  refine(QS ⟨o.fs,o.fe,o.fb,o.fw,o.fk,o.fq,o.fn,F,g,K⟩ (V9 m) m o.fa o.fc w.1.size W c (XI d a) b.head a.size b.tb b.row (by simp[maxLen];omega) (by simp;omega)).mono ?_
  rintro e w' ⟨h,B⟩
  obtain⟨p,r,u,v,x,y⟩:=b.more a.size B
  refine⟨h,r,G,ps++[p],D,q,u,by simp;omega,by omega,fun z f=>?_,a.trans (y.below a.size (fun j e=>?_))⟩
  ·rcases List.mem_append.1 f with f|f
   ·have:=C z f;omega
   ·obtain rfl:=List.mem_singleton.1 f
    rw[v,x];simp;omega
  ·rcases e with rfl|e
   ·exact Y _
   ·exact ZH b.row e
theorem zaQ(w:N)(r:XN w)(n:Nat)(G:Nat->Ops)(T:Nat->(Nat->Int)×(Nat->Int)×(Nat->Int))(la:Int)(a1:la<=5)(hn:n<=1099511627776)(hT:∀i,i<n->TS w (G i).fa (G i).fn (T i).1 (T i).2.1 (T i).2.2)(hG:∀i,i<n->(G i).fits):
  zjz w n G la (Xp w) where
 low:=fun k W ⟨_,_,_,_,_,_,_,_,_,h⟩=>h
 looks:=fun k W L ⟨pv,lv,ps,kn,q,d,R,V,D,C⟩=>zcz d.head d.lists (by omega)
 later:=fun k W W' h h'=>h.later h'
 next:=fun k W h=>h.next
 start:=fun W C hw=>⟨_,_,[],[],0,⟨hw,World.ownsRow_nil _ _ _ _,⟨World.ownsRow_nil _ _ _ _,rfl,fun j v hj=>by simp at hj⟩,(fun p F=>by cases F),List.Pairwise.nil,⟨r.lt,Y _⟩⟩,Y _,Y _,(fun p F=>by cases F),C⟩
 fst:=fun W ta C hw D=>by
  refine(QS ⟨1,1,0,1,0,9,1,fun _=> -1,fun _=>1,fun _=>0⟩ (V9 Je) Je (Q ⟨ta,0,I⟩) 1 w.1.size W (zjN D) (XI r C) (ps:=[]) hw C.size ⟨r.lt,Y _⟩ (World.ownsRow_nil _ _ _ _) (by simp[maxLen]) (by simp)).mono ?_
  rintro e w' ⟨t,p,a4,X,h2,h3,m,h5,h6,h7,h8,h9⟩
  obtain⟨pa,pc,rfl⟩:=zm h6
  refine⟨t,C.trans (h8.below C.size (fun j e=>?_)),pa,pc,h5⟩
  rcases e with rfl|e
  ·exact Y _
  ·cases e
 opens:=fun k W L X Z=>by
  rw[X]
  refine zkG (G k) _ (fun s c=>?_)
  exact zct (G k) (hG k L) _ _ _ r (hT k L) (by omega) (Z.later c)
 steps:=fun k W L X a2 Z=>by
  have J:=Z
  obtain⟨pv,lv,ps,kn,q,d,R,V,D,C⟩:=Z
  have b:=hG k L
  have H:(⟨(G k).te,(G k).tn⟩:Tok).wf:=⟨b.te,b.tn⟩
  by_cases h0:ps=[]
  ·subst h0
   have a0:=d
   obtain⟨pa,pc,U⟩:=zm d.row
   simp at U
   subst U
   exact(zho d.head (G k) (G k).kd X (by omega)).mono fun e w' ⟨t,u⟩=>⟨t,(J.later u).next⟩
  ·have S:0<ps.length:=List.length_pos_iff.2 h0
   obtain⟨i,hi,A⟩:=zeQ (G k).on (ps.map PD.po).length b.on (by simpa using S)
   have K:i<ps.length:=by simpa using hi
   have z:(ps.map PD.po)[i]?=Q ps[i].po:=by simp[K]
   have y:ps[i]∈ps:=List.getElem_mem K
   generalize ps[i]=p at*
   obtain⟨l1,l2,rfl⟩:=List.append_of_mem y
   have F:=d.all p y
   have x:=zit F.1
   have B:=zb F.1.head
   have a3:=D p y
   have o:∀s,P W.1.size W s->Inv w.1.size s w.1.size pv lv (l1++p::l2) kn q/\P w.1.size w s/\p.at s:=fun s m=>⟨d.later m,C.trans (m.mono C.size),F.1.later m⟩
   by_cases h2:(G k).kd=2
   ·rw[h2]
    refine zkH d.head d.row z B x (G k) A _ (fun s m=>?_)
    obtain⟨f,c,g⟩:=o s m
    exact(zkv p g (G k) b.a H (by omega) b.v).mono fun e w' ⟨t,u⟩=>⟨t,XZ f R V D c u⟩
   by_cases h3:(G k).kd=3
   ·rw[h3]
    refine zkI d.head d.row z B x (G k) A _ (fun s m=>?_)
    obtain⟨f,c,g⟩:=o s m
    exact(zkw p g (G k) b.a H (by omega)).mono fun e w' ⟨t,u⟩=>⟨t,XZ f R V D c u⟩
   by_cases m:(G k).kd=4
   ·rw[m]
    refine zkJ d.head d.row z B x (G k) A _ (fun s m=>?_)
    obtain⟨f,c,g⟩:=o s m
    exact(zks p g _ (G k)).mono fun e w' ⟨t,u⟩=>⟨t,XZ f R V D c u⟩
   by_cases h5:(G k).kd=5
   ·rw[h5]
    refine zkK d.head d.row z B x (G k) A _ (fun s m=>?_)
    obtain⟨f,c,g⟩:=o s m
    exact(zkt p g _ (G k)).mono fun e w' ⟨t,u⟩=>⟨t,XZ f R V D c u⟩
   exact(zfw d.head d.row z B x (G k) A (G k).kd (by omega)).mono fun e w' ⟨t,u⟩=>⟨t,(J.later u).next⟩
theorem zfH(a:Option Addr)(n cap:Nat)(G:Nat->Ops)(T:Nat->(Nat->Int)×(Nat->Int)×(Nat->Int))(w:N)(b:XN w)(h:OS w a n G)(hn:n<=1099511627776)(d:∀i,i<n->TS w (G i).fa (G i).fn (T i).1 (T i).2.1 (T i).2.2)(c:∀i,i<n->(G i).fits):
  Calls prog 3 #[.slice a n cap] w fun e w'=>e=.returned (.bool true)/\P w.1.size w w':=by
 have f:=zd (zeS a n cap G 5 (by omega) w h hn _ (zaQ w b n G T 5 (by omega) hn d c))
 clear h hn d c b
 go_enter func3,ntmps3
 go_wp2_with(first|(go_at_call 11;refine(ud f).mono ?_;rintro e w' ⟨rfl,g⟩)|fail)
 go_ret
 exact⟨rfl,g⟩
end Go.Proofs.YtndhpgciopcncaaGreatDoor
namespace Go.Proofs.YtndhpgciopcncaaGreatDoor
open Go.ChangeShapes Go.WideShapes Go.ChangeAt Go.RowKit
theorem zhv:ownKnob prog.godebug=I:=by kernel_rfl
theorem Jt:laidOutB prog=true:=by kernel_rfl
theorem zaO(os:Os)(c:os.Started)(H:Type)(enc:TypeId×M->H):
  ReturnsInHanded {} Tryz.checked os 3 .any (fun w args=>(Rows.takesSpec.pre enc prog Tryz.f3 [] false w args/\laidMetH prog zhH w)/\sizedMet enc prog Tryz.f3 (OpenSpec.ofChange Rows.takesSpec) false w args) (Rows.takesSpec.post enc prog Tryz.f3 false true false false):=by
 refine returnsInHanded_of_change_and (C:=Tryz.checked) (X:=fun w _=>laidMetH prog zhH w) (fun _ _ _ hh h=>h.of_heap hh) zhv c (by kernel_rfl) func3
  (ChangeSpec.witness_shaped (enc:=enc) (C:=Tryz.checked) (os:=os) (X:=fun w _=>laidMetH prog zhH w) false (World.laidAll prog os zhH) #[.slice I 0 0] 8 (World.laidAll_os _ _ _)
   (World.shaped_of_ZipB (by kernel_rfl) (by kernel_rfl)) (by kernel_rfl) (by kernel_rfl) (by kernel_rfl) (ziz os _)) ?_
 intro W base args J gs A b R S z o _
 have f:∀(j:Nat) t v,Tryz.f3.params[j]?=Q t->args[j]?=Q v->Value.okWide prog W .any base t v:=b
 have u:(DataW.weightsEach prog (Tryz.f3.params.toList++Rows.takesSpec.plain.varTypes prog) (J++gs)).all (· <=reachBytes)=true:=z
 have B:=R
 obtain⟨p,q,k,hV,rfl,a2,a3⟩:=R
 have L:DataW.TrodAll enc prog W 0 (fun _=>true) true Tryz.f3.params.toList args.toList J p:=k
 rw[params3]at L f u
 obtain⟨v0,a4,d0,a1,Z,q0,D,rfl,rfl,K,r0⟩:=trodAll_cons L
 obtain⟨rfl,rfl,rfl⟩:=trodAll_nil r0
 obtain rfl:args=#[v0]:=by cases args;simp_all
 obtain⟨rfl,rfl⟩:=trodVars_none hV
 obtain⟨a0,g,d,rfl⟩:=okWide_slice underlying22 (f 0 22 v0 rfl rfl)
 have V:=K
 have F:∀x∈Z,x.block<W.1.size:=by obtain⟨m,hm⟩:=V;exact DataW.trod_lt m _ _ _ hm
 obtain⟨i,U⟩:=K
 have s:DataW.trod enc prog W 0 (fun _=>true) true i 22 [.slice a0 g d]=Q (d0,Z):=by simpa[Value.cells]using U
 obtain⟨a,n,cap,G,T,r,has,hn,hT,hG⟩:=zgN s (fun y hy=>by
  have:=List.all_eq_true.1 u y (DataW.weights_mem_each (j:=0) rfl rfl y hy)
  simpa using this)
 simp at r
 obtain⟨rfl,rfl,rfl⟩:=r
 clear k b U s
 refine(zfH a0 g d G T W (zaM o) has hn hT hG).mono fun e W' ⟨he,bel⟩=>?_
 subst he
 exact⟨_,rfl,_,_,_,[],_,[],B,trodAll_mk1 (shut_bool underlying4 _),(trodAll_cons_mk (Below.trod Jt (by kernel_rfl) (of_decide_eq_true (by kernel_rfl)) V bel F) trodAll_mk0),rfl,bel.frame _,fun h=>by cases h⟩
theorem zaP:Rows.TakesSaid:=
 OpenClaim.holds_of_wide 3 Tryz.f3 rfl rfl rfl rfl rfl rfl rfl ⟨rfl,rfl,rfl,rfl,rfl⟩ rfl rfl rfl rfl rfl (by kernel_rfl) func3 zaN
  (of_decide_eq_true (by kernel_rfl)) (by unfold Func.isWrapper;first|(rw[if_pos (by decide+kernel)];kernel_rfl)|(rw[if_neg (by decide+kernel)];exact⟨rfl,rfl⟩))
  (fun os a H enc _=>zaO os a H enc)
theorem takesCard_holds:Rows.TakesCardSaid:=
 Claim7.holds_tied_plain_at .later [] [.data,.data,.data,.sentinel,.sentinel,.listed,.data] true (true, "e4703e471f700b14ef4f5b2136a5b11b72e3551741bf1531b3f191eeb70a92c1") true
  zaP (fun _ h=>by cases h) (by kernel_rfl) (fun _ h=>by cases h) takes_row_tie rfl ⟨rfl,rfl⟩ (by kernel_rfl) rfl
  (fun f fn d b=>by
   obtain rfl:f=3:=Option.some.inj ((show prog.funcNamed "mill/milllaw.Takes" =Q 3 by kernel_rfl).symm.trans d)|>.symm
   obtain rfl:fn=Tryz.f3:=(Option.some.inj (func3.symm.trans b)).symm
   exact⟨by kernel_rfl,fun j t c=>by
    rw[params3]at c
    have e:t∈[22]:=by simpa using Array.mem_of_getElem? c
    have a:([22].all fun u=>!prog.wantsStandIn u)=true:=by kernel_rfl
    exact(show prog.wantsStandIn t=false by simpa using List.all_eq_true.1 a t e)⟩)
  (by kernel_rfl)
#print axioms takesCard_holds
end Go.Proofs.YtndhpgciopcncaaGreatDoor
