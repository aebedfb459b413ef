import Derived.Test.YtndhpgciopcncaaGreatDoorPMlo0
open Nat renaming le_refl → J
open Nat renaming lt_of_lt_of_le → E
open Go.Value renaming int → Q
open Go.IntKind renaming i32 → Y
open Option renaming some → A
open Go.RowKit renaming Below → D
open Go.RowKit.Below renaming refl → G
open Go renaming World → C
set_option linter.unusedVariables false
set_option maxRecDepth 20000
set_option maxHeartbeats 8000000
open Go.Proofs.Tryz
namespace Go.Proofs.YtndhpgciopcncaaGreatDoor
open Go.ChangeMaps (setBlock)
open Go.RowKit Go.Maps Go.Shelf
def yj(n:Nat):Array Value:=madeCells #[I 0,I 0,I 0] (n*3)
theorem X7(n:Nat):(yj n).size=n*3:=size_madeCells _ _
theorem zcF(n:Nat)(j:n<=4)(a:C):
  (Instr.makeSlice 25 (I (n:Int)) (I (n:Int))).run prog a=.ok (.slice (A (U a.1.size 0)) n n) (a.alloc (.cells (yj n) 80)):=by
 have c:=Tryz.infoTierR
 cases d:prog.info? 80 with
 |none=>simp[d]at c
 |some i=>
  simp only[d,Option.map_some,Option.some.injEq,Prod.mk.injEq]at c
  obtain⟨h,g,b⟩:=c
  have f:=run_make (P:=prog) a 25 80 i _ underlying25 d h .i64 .i64 (n:Int) (n:Int) (by omega) (by omega) (by rw[b];omega) (by omega)
  rw[f,g]
  have e:((n:Int)).toNat=n:=by omega
  rw[e];rfl
theorem zlO{w:C}{g n:Nat}{F W K:Nat->Int}(b:w.1[g]?=A (.cells (ZN n F W K).toArray 80 (0,0))){B:Nat}(a:B<=g)(hn:n<=4):w.ownsRow B 80 3 (.slice (A (U g 0)) n n) n (ZN n F W K):=
 ⟨by rw[qv],.inr ⟨g,n,(ZN n F W K).toArray,rfl,a,b,⟨J _,by simp only[maxLen];omega,by simp[qv],by show List.take (n*3) (ZN n F W K)=_;exact List.take_of_length_le (by rw[qv];omega)⟩⟩⟩
theorem Qi(c:Cf)(L:c.ok)(a:Option Addr)(cap:Nat)(w:C)(h:TS w a c.n c.F c.W c.K):
  Calls prog 30 #[(cZz c a cap)] w fun e w'=>∃g,e=.returned ((cZz c (A (U g 0)) c.n))/\w'.ownsRow w.1.size 80 3 (.slice (A (U g 0)) c.n c.n) c.n (ZN c.n c.F c.W c.K)/\D w.1.size w w':=by
 have o:=L.n4
 have Z:=L.n1
 obtain⟨r,z,d,N⟩:=box2 w (.cells (aZz c a cap) 27) zjZ
 have X:=zcF c.n o
 have l:D (((w.alloc (.cells (aZz c a cap) 27)).alloc zjZ).1.size) ((w.alloc (.cells (aZz c a cap) 27)).alloc zjZ) (((w.alloc (.cells (aZz c a cap) 27)).alloc zjZ).alloc (.cells (yj c.n) 80)):=(G _ _).alloc (J _) _
 have p:=(h.below d).below l
 obtain⟨f,R,H,b,hZ⟩:∃f,(Builtin.copy_ #[25,25] 3 #[.slice (A (U (w.1.size+2) 0)) c.n c.n,.slice a c.n cap]).run prog (((w.alloc (.cells (aZz c a cap) 27)).alloc zjZ).alloc (.cells (yj c.n) 80))=.ok (I c.n) f/\f.1[w.1.size+2]?=A (.cells (ZN c.n c.F c.W c.K).toArray 80 (0,0))/\D (w.1.size+2) (((w.alloc (.cells (aZz c a cap) 27)).alloc zjZ).alloc (.cells (yj c.n) 80)) f/\f.1.size=w.1.size+3:=by
  have u:=zp ((w.alloc (.cells (aZz c a cap) 27)).alloc zjZ) (.cells (yj c.n) 80)
  have x:=zN ((w.alloc (.cells (aZz c a cap) 27)).alloc zjZ) (.cells (yj c.n) 80)
  rw[N]at u x
  have M:=JR (P:=prog) (((w.alloc (.cells (aZz c a cap) 27)).alloc zjZ).alloc (.cells (yj c.n) 80)) 25 25 3 80 3 (w.1.size+2) c.n c.n a c.n cap (yj c.n) 80 (ZN c.n c.F c.W c.K) underlying25 (by kernel_rfl) u
   (by rw[qv];simp) (zjN p) (by rw[qv,X7];omega) (zek _ _ _ _)
  have V:Nat.min c.n c.n=c.n:=by simp
  have S:(yj c.n).toList.drop (c.n*3)=[]:=by apply List.drop_of_length_le;rw[Array.length_toList,X7];omega
  rw[V,qv,S,List.append_nil]at M
  refine⟨_,M,setRow_heap _ _ _ _ _ _ u,below_setRow (G _ _) (J _) _,?_⟩
  simp only[World.setRow]
  simp
 have t:=(b.block w.1.size (by omega)).trans ((l.block _ (zd r)).trans r)
 have q:=(b.block (w.1.size+1) (by omega)).trans ((l.block _ (zd z)).trans z)
 obtain⟨c0,c1,c2,c3,c4,c5,c6,-⟩:=zc t
 have cf:=fun j=>zv t j
 obtain⟨z0,z1,z2,z3,z4,z5,z6,-⟩:=zc q
 have zf:=fun j=>zv q j
 have l0:=zd t
 have l1:=zd q
 obtain⟨-,-,-,-,-,-,q6,-⟩:=zc r
 have yl:=zd r
 have B:Hid (D w.1.size w f):=d.trans ((l.mono d.size).trans (b.mono (by omega)))
 have HR:=ze H
 have O:=ze q
 have YZ:=ze N
 clear l p H b t q r z d h
 go_enter func30,ntmps30
 go_wp2_with fail
 have y:=(zI (w:=f) (g:=w.1.size) (i:=6) (k:=w.1.size+1) (v:=.slice (A (U (w.1.size+2) 0)) c.n c.n) (by omega)).trans (ud O)
 have T:=set7 y (I c.s) (I c.le) (I c.la) (I c.wi) (I c.ke) (I c.qu) (.slice (A (U (w.1.size+2) 0)) c.n c.n)
 have m:zh (fun k=>k=w.1.size\/k=w.1.size+1) f ((((((((f.setCell (U w.1.size 6) (.slice (A (U (w.1.size+2) 0)) c.n c.n)).setCell (U (w.1.size+1) 0) (I c.s)).setCell (U (w.1.size+1) 1) (I c.le)).setCell (U (w.1.size+1) 2) (I c.la)).setCell (U (w.1.size+1) 3) (I c.wi)).setCell (U (w.1.size+1) 4) (I c.ke)).setCell (U (w.1.size+1) 5) (I c.qu)).setCell (U (w.1.size+1) 6) (.slice (A (U (w.1.size+2) 0)) c.n c.n)):=zg (zg (zg (zg (zg (zg (zg (zg (zh.refl _ _) (.inl rfl)) (.inr rfl)) (.inr rfl)) (.inr rfl)) (.inr rfl)) (.inr rfl)) (.inr rfl)) (.inr rfl)
 refine bodyPost_ret (v:=.agg #[I c.s,I c.le,I c.la,I c.wi,I c.ke,I c.qu,.slice (A (U (w.1.size+2) 0)) c.n c.n]) (results_cell_row results30 _ _ (w.1.size+1) _ _ _ _ rfl T underlying27 rfl (by kernel_rfl)) rfl ?_
 exact⟨w.1.size+2,rfl,zlO (m.heap (ud HR) (by omega)) (by omega) o,(ud B).trans (m.below (ud B).size (fun k e=>by rcases e with rfl|rfl<;>omega))⟩
def ZL(q:JM)(a:ByteArray):JM:={q with S:=zbX q.S a}
def zqe(q:JM)(a:ByteArray):JM:={q with st:=JO q.S a q.st,S:=zei q.S a}
def jX(w':C)(i:Ids)(c:Cf)(ep:Int)(m:MS)(q:JM)(now:Int)(xs:List SX)(e:Ending):Prop:=
 (jU q.S (xS now xs)=false/\e=.returned (I 13)/\zQ w' i c ep m {ZL q (xS now xs)with dn:=true})
 \/(jU q.S (xS now xs)=true/\e=.returned (I 0)/\((Jt (zbX q.S (xS now xs)) q.st=false/\zQ w' i c ep (m.took now xs) (ZL q (xS now xs)))\/(Jt (zbX q.S (xS now xs)) q.st=true/\∃a:List SX,a.Perm (vA (m.took now xs).L (m.took now xs).Gl)/\zQ w' i c ep (m.took now xs) (zqe (ZL q (xS now xs)) (xS now a)))))
theorem Yv{w w':C}{i:Ids}{c:Cf}{ep:Int}{m:MS}{q:JM}{base:Nat}{v:Value}{xs:List SX}(h:zQ w i c ep m q)(x:Kx i w w')(hv:vW w base v xs):vW w' base v xs:=zi hv x.kept (fun k p e=>by
 obtain⟨u,o⟩:=zH hv p
 obtain⟨fs,s⟩:=h.jrn
 have r:¬ZM i k:=fun e=>by
  rcases h.otag k e with⟨l,y,n,b,f⟩|⟨B,z,t⟩
  ·have g:=jM o b
   rcases f with a|a|a|a<;>(rw[a]at g;exact absurd g (by decide))
  ·rw[o]at t;cases t
 have hn:¬Zb i.j i.d fs k:=fun e=>by
  obtain⟨l,y,n,b,f⟩:=s.tag k e
  have g:=jM o b
  rcases f with a|a|a<;>(rw[a]at g;exact absurd g (by decide))
 rcases e with(e|e|e|e|e)|e
 ·exact r (.inl e)
 ·exact r (.inr (.inl e))
 ·exact r (.inr (.inr e))
 ·exact hn (.inl e)
 ·exact hn (.inr (.inl e))
 ·exact hn (.inr (.inr (s.fsB▸e))))
theorem zmq(m:MS)(now:Int)(xs:List SX):(m.took now xs).L.length<=m.L.length+xs.length/\(m.took now xs).Gl.length<=m.Gl.length+xs.length:=by
 have h:=Ko xs (m.Gl,m.L)
 exact⟨h.2,h.1⟩
theorem zmR{S:DS}{N:Nat}(h:DOk S N)(a:ByteArray):DOk (zbX S a) (N+a.size+3):=by
 have b:=vX h yk (a++nl)
 rw[Qw]at b
 unfold zbX;split
 ·exact kG b (by omega)
 ·exact kG (Yl b yk) (by omega)
theorem Xm{w:C}{i:Ids}{c:Cf}{ep:Int}{m:MS}{q:JM}(h:zQ w i c ep m q)(now:Int)(H:xg now)(xs:List SX)(a4:∀x∈xs,okX x)(a5:∀x∈vA (m.took now xs).L (m.took now xs).Gl,okX x)(aF:xs.length<=1000)(aD:m.L.length<=900000)(aE:m.Gl.length<=49000000)(N:Nat)(hN:N<=900000000000)(hd:DOk q.S N)(ap:0<=q.st/\q.st<=1099511627776)(base:Nat)(v:Value)(hv:vW w base v xs):
  Calls prog 52 #[(O i.x),I now,v] w fun e w'=>jX w' i c ep m q now xs e/\Kx i w w':=by
 obtain⟨ad,cap,rfl⟩:=hv.slice
 have aG:(xS now xs).size<=200000:=by
  rw[Zh];have:=jG H a4;omega
 obtain⟨X,a2⟩:∃X,w.alloc (.cells #[I now,.slice ad xs.length cap] 190)=X:=⟨_,rfl⟩
 have z:D w.1.size w X:=by rw[<-a2];exact(G _ _).alloc (J _) _
 have a3:X.1[w.1.size]?=A (.cells #[I now,.slice ad xs.length cap] 190 (0,0)):=by rw[<-a2];exact zp _ _
 have r:=h.later z
 have a8:vW X base (.slice ad xs.length cap) xs:=zR hv z
 have a6:=fun W (hW:D X.1.size X W)=>ze (zbV now H xs a4 (by omega) _ W (a8.rd.later hW) (jv r.tab hW))
 have a0:=a6 X (G _ _)
 have a1:=a6 X.drew (G _ _).drew
 have n:=fun W (hW:D X.1.size X W)=>(by
  obtain⟨fs,hj⟩:=(r.later hW).jrn
  exact(znP hj (xS now xs) N (by omega) hd).mono fun e w' ⟨he,az,h1,h2,h3⟩=>(⟨he,(r.later hW).putJrn hj ⟨az,h1,jf h2,h3⟩⟩:e=.returned (.bool (jU q.S (xS now xs)))/\zQ w' i c ep m (ZL q (xS now xs))/\Kx i W w'):Calls prog 107 #[(O i.j),.string (xS now xs)] W fun e w'=>e=.returned (.bool (jU q.S (xS now xs)))/\zQ w' i c ep m (ZL q (xS now xs))/\Kx i W w')
 obtain⟨-,-,-,aq,-⟩:=r.cells
 obtain⟨b0,b1,-⟩:=zc a3
 have lx:=r.lt
 have lb:=zd a3
 have o:=ze r
 have P:=ze a8
 have aC:=ze a3
 have aj:=ze a2
 have K:=ze (Kx.below z h.dlt)
 have B:=zmR hd (xS now xs)
 have F:∀W,D X.1.size X W->¬zG W i w.1.size:=fun W hW e=>by
  have h1:=h.foot_lt w.1.size (by
   rcases e with e|e
   ·exact .inl e
   ·right
    obtain⟨fs,hj⟩:=h.jrn
    have h2:fsB W i.d=fsB w i.d:=by
     unfold fsB
     rw[(hW.trans (G _ _)).cell (p:=(U i.d 0)) r.dlt,z.cell (p:=(U i.d 0)) h.dlt]
    rw[<-h2];exact e)
  omega
 have f:=ze F
 unfold jX
 clear h z a3 r a8 a2 hv a6 F hd
 cases ao:jU q.S (xS now xs)
 ·simp only[ao]at n
  go_enter func52,ntmps52
  go_wp2_with fail
  rw[ud aj]
  go_region_held3 (fun w'=>w'.cell? (U i.x 11)=A (O i.j)/\w'.cell? (U w.1.size 0)=A (I now)/\w'.cell? (U w.1.size 1)=A (.slice ad xs.length cap)) (go_keep) (first
   |(go_at_call 108;(first|(with_reducible refine(ud a0).mono ?_)|(with_reducible refine(ud a1).mono ?_));rintro e V ⟨rfl,b⟩;have g:D X.1.size X V:=⟨b.os,b.tape,b.output,b.size,b.block⟩;have aB:=(g.cell (p:=(U i.x 11)) lx).trans aq;have v0:=(g.cell (p:=(U w.1.size 0)) lb).trans b0;have v1:=(g.cell (p:=(U w.1.size 1)) lb).trans b1;have s:=E lb g.size;have t:=ze (n V g);have u:=ze (n V.drew g.drew);unfold xS at t u;have a:=ze g;clear g b n a0 a1)
   |(go_at_call 107;(with_reducible refine(ud t).mono ?_);rintro e T ⟨rfl,l,k⟩;obtain⟨-,-,-,aa,ab⟩:=l.cells;have ac:=zv l.head 12;have t0:=(zM (i:=0) k.kept (ud f _ (ud a)) s).trans v0;have t1:=(zM (i:=1) k.kept (ud f _ (ud a)) s).trans v1;have lT:=E s k.size;have a9:=l.lt;have M:=ze (Yv ((ud o).later (ud a)) k (zR (ud P) (ud a)));have HM:=ze l;have HK:=ze (((ud K).trans (Kx.below (ud a) (ud o).dlt)).trans k);clear l k)
   |(go_at_call 107;(with_reducible refine(ud u).mono ?_);rintro e T ⟨rfl,l,k⟩;obtain⟨-,-,-,aa,ab⟩:=l.cells;have ac:=zv l.head 12;have t0:=(zM (i:=0) k.kept (ud f _ (ud a).drew) s).trans v0;have t1:=(zM (i:=1) k.kept (ud f _ (ud a).drew) s).trans v1;have lT:=E s k.size;have a9:=l.lt;have M:=ze (Yv ((ud o).later (ud a).drew) k (zR (ud P) (ud a).drew));have HM:=ze l;have HK:=ze (((ud K).trans (Kx.below (ud a).drew (ud o).dlt)).trans k);clear l k))
  all_goals go_wp2_with fail
  all_goals go_ret
  all_goals exact⟨.inl ⟨trivial,rfl,(ud HM).setDown.1⟩,(ud HK).trans (ud HM).setDown.2⟩
 ·simp only[ao]at n
  have aA:=zmq m now xs
  have ai:=fun T (hT:zQ T i c ep m (ZL q (xS now xs))) (hR:vW T base (.slice ad xs.length cap) xs)=>ze (zmj hT now xs (fun x hx=>(a4 x hx).key) (by omega) (by omega) base _ hR)
  have af:=fun T (hT:zQ T i c ep (m.took now xs) (ZL q (xS now xs)))=>(by
   obtain⟨fs,hj⟩:=hT.jrn
   exact ze (zlk hj (N+(xS now xs).size+3) (by omega) B ap):Hid (Calls prog 110 #[(O i.j)] T (Rz T (.bool (Jt (zbX q.S (xS now xs)) q.st)))))
  have ay:=fun T (hT:zQ T i c ep (m.took now xs) (ZL q (xS now xs)))=>ze (VI hT H a5 (by omega) (by omega) (N+(xS now xs).size+3) (by omega) B)
  clear a4 a5 B ap aA
  go_enter func52,ntmps52
  go_wp2_with fail
  rw[ud aj]
  go_region_held3 (fun w'=>w'.cell? (U i.x 11)=A (O i.j)/\w'.cell? (U w.1.size 0)=A (I now)/\w'.cell? (U w.1.size 1)=A (.slice ad xs.length cap)) (go_keep) (first
   |(go_at_call 108;(first|(with_reducible refine(ud a0).mono ?_)|(with_reducible refine(ud a1).mono ?_));rintro e V ⟨rfl,b⟩;have g:D X.1.size X V:=⟨b.os,b.tape,b.output,b.size,b.block⟩;have aB:=(g.cell (p:=(U i.x 11)) lx).trans aq;have v0:=(g.cell (p:=(U w.1.size 0)) lb).trans b0;have v1:=(g.cell (p:=(U w.1.size 1)) lb).trans b1;have s:=E lb g.size;have t:=ze (n V g);have u:=ze (n V.drew g.drew);unfold xS at t u;have a:=ze g;clear g b n a0 a1)
   |(go_at_call 107;(with_reducible refine(ud t).mono ?_);rintro e T ⟨rfl,l,k⟩;obtain⟨-,-,-,aa,ab⟩:=l.cells;have ac:=zv l.head 12;have t0:=(zM (i:=0) k.kept (ud f _ (ud a)) s).trans v0;have t1:=(zM (i:=1) k.kept (ud f _ (ud a)) s).trans v1;have lT:=E s k.size;have a9:=l.lt;have M:=ze (Yv ((ud o).later (ud a)) k (zR (ud P) (ud a)));have HM:=ze l;have HK:=ze (((ud K).trans (Kx.below (ud a) (ud o).dlt)).trans k);clear l k)
   |(go_at_call 107;(with_reducible refine(ud u).mono ?_);rintro e T ⟨rfl,l,k⟩;obtain⟨-,-,-,aa,ab⟩:=l.cells;have ac:=zv l.head 12;have t0:=(zM (i:=0) k.kept (ud f _ (ud a).drew) s).trans v0;have t1:=(zM (i:=1) k.kept (ud f _ (ud a).drew) s).trans v1;have lT:=E s k.size;have a9:=l.lt;have M:=ze (Yv ((ud o).later (ud a).drew) k (zR (ud P) (ud a).drew));have HM:=ze l;have HK:=ze (((ud K).trans (Kx.below (ud a).drew (ud o).dlt)).trans k);clear l k))
  all_goals go_wp2_with fail
  all_goals(
   refine(ud (ai T (ud HM) (ud M))).mono ?_
   rintro e U9 ⟨rfl,y,al⟩
   obtain⟨-,-,-,aH,-⟩:=y.cells
   have lu:=y.lt
   have av:=af U9 y
   have ag:=ze y
   have au:=ze ((ud HK).trans al)
   clear y al ai af
   go_wp2_with fail
   refine(ud av).mono ?_
   rintro e Z ⟨rfl,a7⟩
   have ah:=ze ((ud ag).later a7)
   have ae:=ze ((ud au).trans (Kx.below a7 (ud ag).dlt))
   clear a7
   cases an:Jt (zbX q.S (xS now xs)) q.st
   ·go_wp2_with fail
    go_ret
    exact⟨.inr ⟨trivial,rfl,.inl ⟨an,ud ah⟩⟩,ud ae⟩
   ·go_wp2_with fail
    refine(ud (ay Z (ud ah))).mono ?_
    rintro e R ⟨ys,hp,rfl,am,ak⟩
    have ax:=ze hp
    have aw:=ze am
    have ar:=ze ((ud ae).trans ak)
    clear hp am ak
    go_wp2_with fail
    go_ret
    exact⟨.inr ⟨trivial,rfl,.inr ⟨an,ys,ud ax,ud aw⟩⟩,ud ar⟩)
theorem XR(n:Int)(w:C)(h:0<=n/\n<4):Calls prog 60 #[I n] w fun e w'=>e=.returned (.bool true)/\w'=w:=by
 obtain⟨a,b⟩:=h
 go_enter func60,ntmps60
 go_wp2_with fail
 go_ret
 exact⟨rfl,rfl⟩
theorem zfv{dn:Bool}{w:C}{i:Ids}{c:Cf}{ep:Int}{m:MS}(h:xG dn w i c ep m)(z:c.ok)(sr tm val:Int)(l:0<=sr/\sr<4)(s:0<=tm/\tm<=m.now)(ad:m.now-c.la<=tm)(a4:m.now<=100000)(a5: -2147483648<=val/\val<=2147483647)(hu:0<=zJ m.L/\zJ m.L<=1000)(Z:zos m.L)(X:∀k:Nat,k<c.n->zD m.Gl (qm c sr tm k)=none)(aa:c.qu<zJ m.L+(1+2*qO c m.L ⟨sr,tm,val⟩ c.n)):
  Calls prog 27 #[(O i.x),I sr,I tm,Q Y val] w (Rz w (I 4)):=by
 obtain⟨a,cap,a3,a2⟩:=h.ts
 obtain⟨c0,c1,c2,c3,c4,c5,P,c7,c8,c9,-⟩:=h.cells
 rw[a3]at P
 have f:=h.lt
 obtain⟨ag,ah⟩:=z.qu
 obtain⟨ab,ac⟩:=z.la
 have ae:=yD c m.L ⟨sr,tm,val⟩ c.n
 have af:=z.n4
 have HU:=fun W V=>ze (XY ((h.later (w':=W) V).set) (by unfold xg;omega))
 have B:=fun W V=>ze (zbf ((h.later (w':=W) V).set) z sr tm val l ⟨s.1,by omega⟩ Z X)
 have HQ:=fun W=>ze (Qs c a cap W)
 have K:=fun W=>ze (Js c a cap W)
 have F:=fun W=>ze (XR sr W l)
 obtain⟨ai,aj⟩:=hu
 have a7:decide (tm<0)=false:=by simp;omega
 have a8:decide (m.now<tm)=false:=by simp;omega
 have a9:decide (tm<m.now-c.la)=false:=by simp;omega
 have H:=ze h
 generalize T:zJ m.L=U9 at*
 generalize S:qO c m.L ⟨sr,tm,val⟩ c.n=M at*
 obtain⟨a0,a1⟩:=s
 have s:0<=tm/\tm<=m.now:=⟨a0,a1⟩
 clear h a2 T S
 go_enter func27,ntmps27
 go_wp2_with(first|(go_at_call 60;refine(ud (F _)).mono ?_;rintro e W9 ⟨rfl,h9⟩;have R:=h9.symm;subst R))
 have v:Nonempty (xc w.1.size w):=xc.some _ _
 have t:=fun(u:xc w.1.size w) b o h=>u.cell b o h
 refine zx w.1.size (by kernel_rfl) (by kernel_rfl) ?_
 repeat(go_big_quiet_step (first
  |(go_at_call 61;exact Calls.later (J _) (ud (K _)))))
 refine wpQuiet_nil ?_
 rintro⟨y,d⟩
 dsimp only
 clear t v
 go_wp2_with fail
 have d0:=(d.cell (p:=(U i.x 0)) f).trans c0
 have d1:=(d.cell (p:=(U i.x 1)) f).trans c1
 have d2:=(d.cell (p:=(U i.x 2)) f).trans c2
 have d3:=(d.cell (p:=(U i.x 3)) f).trans c3
 have d4:=(d.cell (p:=(U i.x 4)) f).trans c4
 have d5:=(d.cell (p:=(U i.x 5)) f).trans c5
 have d6:=(d.cell (p:=(U i.x 6)) f).trans P
 have d7:=(d.cell (p:=(U i.x 7)) f).trans c7
 have d8:=(d.cell (p:=(U i.x 8)) f).trans c8
 have d9:=(d.cell (p:=(U i.x 9)) f).trans c9
 have a6:=E f d.size
 have g:=ze d
 clear c0 c1 c2 c3 c4 c5 P c7 c8 c9 d
 have r:Nonempty (xc y.1.size y):=xc.some _ _
 have q:=fun(u:xc y.1.size y) b o h=>u.cell b o h
 refine zx y.1.size (by kernel_rfl) (by kernel_rfl) ?_
 repeat(go_big_quiet_step (first
  |(go_at_call 43;exact Calls.later (J _) (ud (HU _ ((ud g).trans (Below.mono (Subtype.property _) (ud g).size)))))
  |(go_at_call 62;exact Calls.later (J _) (ud (B _ ((ud g).trans (Below.mono (Subtype.property _) (ud g).size)))))
  |(go_at_call 63;exact Calls.later (J _) (ud (HQ _)))))
 refine wpQuiet_nil ?_
 rintro⟨w2,j⟩
 dsimp only
 clear q r
 have N:=ze ((ud g).trans (j.mono (ud g).size))
 clear j d0 d1 d2 d3 d4 d5 d6 d7 d8 d9
 go_wp2_with fail
 go_ret
 exact⟨rfl,ud N⟩
theorem Kz{w':C}{i:Ids}{c:Cf}{ep:Int}{m:MS}{q:JM}{now:Int}{xs:List SX}{e:Ending}(h:jX w' i c ep m q now xs e):∃r:Int,e=.returned (I r):=by
 rcases h with⟨_,h,_⟩|⟨_,h,_⟩<;>exact⟨_,h⟩
theorem zbF{w':C}{i:Ids}{c:Cf}{ep:Int}{m:MS}{q:JM}{now:Int}{xs:List SX}{e:Ending}(h:jX w' i c ep m q now xs e):∃m' a,zQ w' i c ep m' a/\(m'=m\/m'=m.took now xs):=by
 rcases h with⟨_,_,h⟩|⟨_,_,⟨_,h⟩|⟨_,b,_,h⟩⟩
 ·exact⟨_,_,h,.inl rfl⟩
 ·exact⟨_,_,h,.inr rfl⟩
 ·exact⟨_,_,h,.inr rfl⟩
theorem Q6{w':C}{i:Ids}{c:Cf}{ep:Int}{m:MS}{q:JM}{xs:List SX}{e:Ending}(h:jX w' i c ep m q m.now xs e):w'.cell? (U i.x 8)=A (I m.now)/\w'.cell? (U i.x 9)=A (O i.s):=by
 obtain⟨m',g,d,f⟩:=zbF h
 obtain⟨a,b,-⟩:=d.cells
 refine⟨?_,b⟩
 rw[a]
 rcases f with rfl|rfl<;>rfl
theorem zqd{w:C}{i:Ids}{c:Cf}{ep:Int}{m:MS}{q:JM}(h:zQ w i c ep m q)(hc:c.ok)(sr tm val:Int)(z:0<=sr/\sr<4)(P:0<=tm/\tm<=m.now)(aG:m.now-c.la<=tm)(aw:m.now<=100000)(ae: -2147483648<=val/\val<=2147483647)(hu:0<=zJ m.L/\zJ m.L<=1000)(ap:zos m.L)(an:∀k:Nat,k<c.n->zD m.Gl (qm c sr tm k)=none)(aD:zJ m.L+(1+2*qO c m.L ⟨sr,tm,val⟩ c.n)<=c.qu)(ad:∀p∈m.L,p.1.t= -1->p.2.cl.small)
  (ac:∀x∈yB c m.Gl m.L ⟨sr,tm,val⟩,okX x) (X:∀x∈vA (m.took m.now (yB c m.Gl m.L ⟨sr,tm,val⟩)).L (m.took m.now (yB c m.Gl m.L ⟨sr,tm,val⟩)).Gl,okX x) (am:(yB c m.Gl m.L ⟨sr,tm,val⟩).length<=1000) (al:m.L.length<=900000) (ak:m.Gl.length<=49000000) (N:Nat) (hN:N<=900000000000) (hd:DOk q.S N) (ao:0<=q.st/\q.st<=1099511627776):
  Calls prog 27 #[(O i.x),I sr,I tm,Q Y val] w fun e w'=>jX w' i c ep m q m.now (yB c m.Gl m.L ⟨sr,tm,val⟩) e/\Kx i w w':=by
 obtain⟨a,cap,av,au⟩:=h.own.ts
 obtain⟨c0,c1,c2,c3,c4,c5,c6,c7,c8,c9,-⟩:=h.own.cells
 rw[av]at c6
 have f:=h.lt
 obtain⟨aJ,aK⟩:=hc.qu
 obtain⟨aE,aF⟩:=hc.la
 have aH:=yD c m.L ⟨sr,tm,val⟩ c.n
 have aI:=hc.n4
 have HU:=fun W hW=>ze (XY ((h.later (w':=W) hW).set) (by unfold xg;omega))
 have a7:=fun W hW=>ze (zbf ((h.later (w':=W) hW).set) hc sr tm val z ⟨P.1,by omega⟩ ap an)
 have HQ:=fun W=>ze (Qs c a cap W)
 have a9:=fun W=>ze (Js c a cap W)
 have a8:=fun W=>ze (XR sr W z)
 obtain⟨aL,aM⟩:=hu
 have az:decide (tm<0)=false:=by simp;omega
 have aA:decide (m.now<tm)=false:=by simp;omega
 have aB:decide (tm<m.now-c.la)=false:=by simp;omega
 have H:=ze h
 have Z:=fun W hW=>ze (zfC ((h.later (w':=W) hW).set) hc sr tm val z ⟨P.1,by omega⟩ ae ad)
 generalize aC:yB c m.Gl m.L ⟨sr,tm,val⟩=xs at*
 have a0:=fun W (hW:D w.1.size w W) base v hv=>ze (Xm (h.later hW) m.now (by unfold xg;omega) xs ac X am al ak N hN hd ao base v hv)
 clear ac X ad hd
 generalize aj:zJ m.L=U9 at*
 generalize ai:qO c m.L ⟨sr,tm,val⟩ c.n=M at*
 obtain⟨aq,ar⟩:=P
 have P:0<=tm/\tm<=m.now:=⟨aq,ar⟩
 clear h au aj ai
 go_enter func27,ntmps27
 go_wp2_with(first|(go_at_call 60;refine(ud (a8 _)).mono ?_;rintro e W9 ⟨rfl,h9⟩;have ah:=h9.symm;subst ah))
 have ab:Nonempty (xc w.1.size w):=xc.some _ _
 have aa:=fun(u:xc w.1.size w) b o h=>u.cell b o h
 refine zx w.1.size (by kernel_rfl) (by kernel_rfl) ?_
 repeat(go_big_quiet_step (first
  |(go_at_call 61;exact Calls.later (J _) (ud (a9 _)))))
 refine wpQuiet_nil ?_
 rintro⟨w1,d⟩
 dsimp only
 clear aa ab
 go_wp2_with fail
 have d0:=(d.cell (p:=(U i.x 0)) f).trans c0
 have d1:=(d.cell (p:=(U i.x 1)) f).trans c1
 have d2:=(d.cell (p:=(U i.x 2)) f).trans c2
 have d3:=(d.cell (p:=(U i.x 3)) f).trans c3
 have d4:=(d.cell (p:=(U i.x 4)) f).trans c4
 have d5:=(d.cell (p:=(U i.x 5)) f).trans c5
 have d6:=(d.cell (p:=(U i.x 6)) f).trans c6
 have d7:=(d.cell (p:=(U i.x 7)) f).trans c7
 have d8:=(d.cell (p:=(U i.x 8)) f).trans c8
 have d9:=(d.cell (p:=(U i.x 9)) f).trans c9
 have ax:=E f d.size
 have g:=ze d
 clear c0 c1 c2 c3 c4 c5 c6 c7 c8 c9 d
 have a2:Nonempty (xc w1.1.size w1):=xc.some _ _
 have a1:=fun(u:xc w1.1.size w1) b o h=>u.cell b o h
 refine zx w1.1.size (by kernel_rfl) (by kernel_rfl) ?_
 repeat(go_big_quiet_step (first
  |(go_at_call 43;exact Calls.later (J _) (ud (HU _ ((ud g).trans (Below.mono (Subtype.property _) (ud g).size)))))
  |(go_at_call 62;exact Calls.later (J _) (ud (a7 _ ((ud g).trans (Below.mono (Subtype.property _) (ud g).size)))))
  |(go_at_call 63;exact Calls.later (J _) (ud (HQ _)))))
 refine wpQuiet_nil ?_
 rintro⟨w2,R⟩
 dsimp only
 clear a1 a2
 have l:=ze ((ud g).trans (R.mono (ud g).size))
 clear R d0 d1 d2 d3 d4 d5 d6 d7 d8 d9
 have B:=(ud H).later (ud l)
 obtain⟨-,-,-,-,-,-,-,-,e8,e9,-⟩:=B.own.cells
 have a3:=B.lt
 have a4:=Z w2 (ud l)
 have a5:=Z w2.drew (ud l).drew
 have ay:=ze B
 clear B Z a7 HU HQ a9 a8
 go_wp2_with fail
 go_region_held3 (fun w'=>w'.cell? (U i.x 8)=A (I m.now)/\w'.cell? (U i.x 9)=A (O i.s)) (go_keep) (first
  |(go_at_call 64;(first|(with_reducible refine(ud a4).mono ?_)|(with_reducible refine(ud a5).mono ?_));rintro e V ⟨v,rfl,y,j⟩;have hv:D w2.1.size w2 V:=⟨j.os,j.tape,j.output,j.size,j.block⟩;clear j;have v8:=(hv.cell (p:=(U i.x 8)) a3).trans e8;have v9:=(hv.cell (p:=(U i.x 9)) a3).trans e9;have aN:=E a3 hv.size;have K:=(ud l).trans (hv.mono (ud l).size);have af:=a0 V K _ v y;have ag:=a0 V.drew K.drew _ v (zR y (G _ _).drew);have a6:=ze K;clear hv K y a0 a4 a5)
  |(go_at_call 52;(with_reducible refine(ud af).mono ?_);rintro e T ⟨F,hK⟩;obtain⟨t8,t9⟩:=Q6 F;obtain⟨r,rfl⟩:=Kz F;have HS:=ze F;have HK:=ze ((Kx.below (ud a6) (ud H).dlt).trans hK);clear F hK)
  |(go_at_call 52;(with_reducible refine(ud ag).mono ?_);rintro e T ⟨F,hK⟩;obtain⟨t8,t9⟩:=Q6 F;obtain⟨r,rfl⟩:=Kz F;have HS:=ze F;have HK:=ze ((Kx.below (ud a6).drew (ud H).dlt).trans hK);clear F hK))
 all_goals go_wp2_with fail
 all_goals go_ret
 all_goals exact⟨ud HS,ud HK⟩
def vI(v:SV):Cl×Int:=if v.st=0 then(qt,10)else if v.st=2 then(qt,11)else if v.st=4 then(qt,12)else(v.cl,0)
def qS(c:Cf)(now:Int)(Gl:List (Sg×Unit))(L:LV)(t sr wn:Int):Cl×Int:=
 if now-c.la<(wn+1)*c.wh t then(qt,9)else vI (stG Gl L ⟨t,sr,wn⟩)
theorem Kf{dn:Bool}{w:C}{i:Ids}{c:Cf}{ep:Int}{m:MS}(h:xG dn w i c ep m)(hc:c.ok)(T:0<=m.now/\m.now<=100000)(t sr wn:Int)(ht: -1<=t/\t<c.n)(V:0<=sr/\sr<4)(a0:0<=wn/\wn<=100000):
  Calls prog 57 #[(O i.x),I t,I sr,I wn] w (Rz w (.tuple #[.agg #[I (qS c m.now m.Gl m.L t sr wn).1.cnt,I (qS c m.now m.Gl m.L t sr wn).1.sum,Q Y (qS c m.now m.Gl m.L t sr wn).1.mn,Q Y (qS c m.now m.Gl m.L t sr wn).1.mx],I (qS c m.now m.Gl m.L t sr wn).2])):=by
 obtain⟨a,cap,a5,X⟩:=h.ts
 have a9:=h.lt
 have z:D w.1.size w (w.alloc Qd):=(G _ _).alloc (J _) _
 obtain⟨c0,c1,c2,c3,c4,c5,c6,-,c8,c9,-⟩:=(h.later z).cells
 rw[a5]at c6
 have s:=ze z
 have d:=ze (zp w Qd)
 have b:w.1.size<(w.alloc Qd).1.size:=by rw[zN];omega
 have r:i.x<(w.alloc Qd).1.size:=by rw[zN];omega
 have HH:=ze (zlh c hc a cap t (w.alloc Qd))
 have a7:=hc.n4
 rw[show inB t (-1) ((c.n:Int)-1)=true from by rw[vQ];omega]at HH
 have HS:=fun W=>ze (XR sr W V)
 have aa:decide (wn<0)=false:=by simp;omega
 have ab:decide (100000<wn)=false:=by simp;omega
 have HC:=fun(W:C) (hb:D (w.alloc Qd).1.size (w.alloc Qd) W)=>ze (K8 c hc a cap t wn m.now ht.1 ht.2 a0 T W.drew (X.below (z.trans (hb.mono z.size)).drew))
 have Z:(⟨t,sr,wn⟩:Sg).wf:=by refine⟨?_,?_,?_⟩<;>unfold xg<;>simp only<;>omega
 have R:=fun(W:C) (hb:D (w.alloc Qd).1.size (w.alloc Qd) W)=>ze (zbg ((h.later z).later hb).set ⟨t,sr,wn⟩ Z)
 have K9:=c9
 clear z h X Z
 by_cases p5:m.now-c.la<(wn+1)*c.wh t
 case' pos=>
  rw[show qS c m.now m.Gl m.L t sr wn=(qt,9)from by unfold qS;rw[if_pos p5]]
  rw[show decide ((wn+1)*c.wh t<=m.now-c.la)=false from by simp;omega]at HC
  clear p5
 case' neg=>
  rw[show qS c m.now m.Gl m.L t sr wn=vI (stG m.Gl m.L ⟨t,sr,wn⟩)from by unfold qS;rw[if_neg p5]]
  rw[show decide ((wn+1)*c.wh t<=m.now-c.la)=true from by simp;omega]at HC
  unfold clV at R
  dsimp only at R
  generalize stG m.Gl m.L ⟨t,sr,wn⟩=v at*
  clear p5
  by_cases F:v.st=0
  case' pos=>
   rw[show vI v=(qt,10)from by unfold vI;rw[if_pos F]]
   have q6:(v.st==0)=true:=by simp[F]
   clear F
  case' neg=>
   have q6:(v.st==0)=false:=by simp[F]
   by_cases N:v.st=2
   case' pos=>
    rw[show vI v=(qt,11)from by unfold vI;rw[if_neg F,if_pos N]]
    have q7:(v.st==2)=true:=by simp[N]
    clear F N
   case' neg=>
    have q7:(v.st==2)=false:=by simp[N]
    by_cases P:v.st=4
    case' pos=>
     rw[show vI v=(qt,12)from by unfold vI;rw[if_neg F,if_neg N,if_pos P]]
     have q8:(v.st==4)=true:=by simp[P]
     clear F N P
    case' neg=>
     have q8:(v.st==4)=false:=by simp[P]
     rw[show vI v=(v.cl,0)from by unfold vI;rw[if_neg F,if_neg N,if_neg P]]
     clear F N P
 all_goals
  go_enter func57,ntmps57
  go_wp2_with(first|(go_at_call 116;refine(ud HH).mono ?_;rintro e w1 ⟨rfl,f⟩;have m0:=(f.cell (p:=(U i.x 0)) r).trans c0;have m1:=(f.cell (p:=(U i.x 1)) r).trans c1;have m2:=(f.cell (p:=(U i.x 2)) r).trans c2;have m3:=(f.cell (p:=(U i.x 3)) r).trans c3;have m4:=(f.cell (p:=(U i.x 4)) r).trans c4;have m5:=(f.cell (p:=(U i.x 5)) r).trans c5;have m6:=(f.cell (p:=(U i.x 6)) r).trans c6;have m8:=(f.cell (p:=(U i.x 8)) r).trans c8;have m9:=(f.cell (p:=(U i.x 9)) r).trans c9;obtain⟨y0,y1,y2,y3,-⟩:=zc (((f.block w.1.size b).trans (ud d)));have yf:=fun j=>zv ((f.block w.1.size b).trans (ud d)) j;have H:=ze f)|(go_at_call 60;refine(ud (HS _)).mono ?_;rintro e W9 ⟨rfl,h9⟩;have a3:=h9.symm;subst a3))
  have a1:=HC w1 (ud H)
  have a6:=E r (ud H).size
  clear y0 y1 y2 y3 yf f c0 c1 c2 c3 c4 c5 c6 c8 c9 HC HS HH
  refine xK 10 (by kernel_rfl) (by kernel_rfl) ?_
  simp only[List.take_succ_cons,List.take_zero,List.drop_succ_cons,List.drop_zero]
  repeat still_step
  refine wpStill_nil ?_
  go_wp2_with(first|(go_at_call 117;refine(ud a1).mono ?_;rintro e w3 ⟨rfl,a4⟩;have y:D _ _ w3:=(ud H).trans ((zpZ a4).mono (ud H).size);have n9:=(y.cell (p:=(U i.x 9)) r).trans K9;obtain⟨y0,y1,y2,y3,-⟩:=zc (((y.block w.1.size b).trans (ud d)));have yf:=fun j=>zv ((y.block w.1.size b).trans (ud d)) j;have u:=ze y))
 rotate_right
 ·clear R
  have K:=((ud u).block w.1.size b).trans (ud d)
  have M:=Vd K (I 0) (I 0) (Q Y 0) (Q Y 0)
  refine bodyPost_ret (v:=.tuple #[.agg #[I 0,I 0,Q Y 0,Q Y 0],I 9]) (zZ results57 _ _ w.1.size _ _ _ _ _ rfl rfl M underlying115 rfl (by kernel_rfl)) rfl ?_
  exact⟨rfl,(ud s).trans (((ud u).mono (ud s).size).trans (below4 (J _) _ _ _ _))⟩
 all_goals
  have a2:=R w3 (ud u)
  clear R y0 y1 y2 y3 yf
  refine(ud a2).mono ?_
  rintro e w4 ⟨rfl,S⟩
  have l:=(ud u).trans (S.mono (ud u).size)
  obtain⟨y0,-⟩:=zc (((l.block w.1.size b).trans (ud d)))
  obtain⟨-,y1,-⟩:=zc (((l.block w.1.size b).trans (ud d)))
  obtain⟨-,-,y2,-⟩:=zc (((l.block w.1.size b).trans (ud d)))
  obtain⟨-,-,-,y3,-⟩:=zc (((l.block w.1.size b).trans (ud d)))
  have yf:=fun j=>zv ((l.block w.1.size b).trans (ud d)) j
  have a8:w.1.size<w4.1.size:=E b l.size
  have k:=ze l
  clear S l
  go_wp2_with fail
 ·skip
  have K:=((ud k).block w.1.size b).trans (ud d)
  have q:=Vd K (I v.cl.cnt) (I v.cl.sum) (Q Y v.cl.mn) (Q Y v.cl.mx)
  have M:=(Below.heap_alloc _ (.cells #[I v.cl.cnt,I v.cl.sum,Q Y v.cl.mn,Q Y v.cl.mx] 115) _ (zd q)).trans q
  have o:=(ud s).trans (((ud k).mono (ud s).size).trans (below4 (w:=w4) (g:=w.1.size) (B:=w.1.size) (J _) (I v.cl.cnt) (I v.cl.sum) (Q Y v.cl.mn) (Q Y v.cl.mx)))
  refine bodyPost_ret (v:=.tuple #[.agg #[I v.cl.cnt,I v.cl.sum,Q Y v.cl.mn,Q Y v.cl.mx],I 0]) (zZ results57 _ _ w.1.size _ _ _ _ _ rfl rfl M underlying115 rfl (by kernel_rfl)) rfl ?_
  exact⟨rfl,o.alloc o.size _⟩
 ·skip
  have K:=((ud k).block w.1.size b).trans (ud d)
  have q:=Vd K (I 0) (I 0) (Q Y 0) (Q Y 0)
  have M:=(Below.heap_alloc _ (.cells #[I v.cl.cnt,I v.cl.sum,Q Y v.cl.mn,Q Y v.cl.mx] 115) _ (zd q)).trans q
  have o:=(ud s).trans (((ud k).mono (ud s).size).trans (below4 (w:=w4) (g:=w.1.size) (B:=w.1.size) (J _) (I 0) (I 0) (Q Y 0) (Q Y 0)))
  refine bodyPost_ret (v:=.tuple #[.agg #[I 0,I 0,Q Y 0,Q Y 0],I 12]) (zZ results57 _ _ w.1.size _ _ _ _ _ rfl rfl M underlying115 rfl (by kernel_rfl)) rfl ?_
  exact⟨rfl,o.alloc o.size _⟩
 ·skip
  have K:=((ud k).block w.1.size b).trans (ud d)
  have q:=Vd K (I 0) (I 0) (Q Y 0) (Q Y 0)
  have M:=(Below.heap_alloc _ (.cells #[I v.cl.cnt,I v.cl.sum,Q Y v.cl.mn,Q Y v.cl.mx] 115) _ (zd q)).trans q
  have o:=(ud s).trans (((ud k).mono (ud s).size).trans (below4 (w:=w4) (g:=w.1.size) (B:=w.1.size) (J _) (I 0) (I 0) (Q Y 0) (Q Y 0)))
  refine bodyPost_ret (v:=.tuple #[.agg #[I 0,I 0,Q Y 0,Q Y 0],I 11]) (zZ results57 _ _ w.1.size _ _ _ _ _ rfl rfl M underlying115 rfl (by kernel_rfl)) rfl ?_
  exact⟨rfl,o.alloc o.size _⟩
 ·skip
  have K:=((ud k).block w.1.size b).trans (ud d)
  have q:=Vd K (I 0) (I 0) (Q Y 0) (Q Y 0)
  have M:=(Below.heap_alloc _ (.cells #[I v.cl.cnt,I v.cl.sum,Q Y v.cl.mn,Q Y v.cl.mx] 115) _ (zd q)).trans q
  have o:=(ud s).trans (((ud k).mono (ud s).size).trans (below4 (w:=w4) (g:=w.1.size) (B:=w.1.size) (J _) (I 0) (I 0) (Q Y 0) (Q Y 0)))
  refine bodyPost_ret (v:=.tuple #[.agg #[I 0,I 0,Q Y 0,Q Y 0],I 10]) (zZ results57 _ _ w.1.size _ _ _ _ _ rfl rfl M underlying115 rfl (by kernel_rfl)) rfl ?_
  exact⟨rfl,o.alloc o.size _⟩
end Go.Proofs.YtndhpgciopcncaaGreatDoor
