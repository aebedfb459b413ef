import Derived.Test.YtndhpgciopcncaaGreatDoorUConf3
import Derived.Test.YtndhpgciopcncaaGreatDoorURnw0
open Go.Value renaming int → I
open Go.IntKind renaming i64 → J
open Option renaming none → O
open Nat renaming lt_of_lt_of_le → E
open Go.IntKind renaming i32 → Q
open Nat renaming le_refl → Y
open Option renaming some → A
open Go.RowKit renaming Below → D
open Go.RowKit.Below renaming refl → G
open Go renaming World → C
set_option linter.unusedVariables false
set_option maxRecDepth 20000
set_option maxHeartbeats 8000000
open Go.Proofs.Tryz
namespace Go.Proofs.YtndhpgciopcncaaGreatDoor
open Go.ChangeMaps (setBlock)
open Go.RowKit Go.Maps Go.Shelf
def qH(n:Nat):Array Value:=madeCells #[I J 0,I J 0,I J 0] (n*3)
theorem jB(n:Nat):(qH n).size=n*3:=size_madeCells _ _
theorem J2(n:Nat)(j:n<=4)(a:C):
  (Instr.makeSlice 25 (I J (n:Int)) (I J (n:Int))).run prog a=.ok (.slice (A ⟨a.1.size,0,O⟩) n n) (a.alloc (.cells (qH n) 80)):=by
 have c:=Tryz.infoTierR
 cases d:prog.info? 80 with
 |none=>simp[d]at c
 |some i=>
  simp only[d,Option.map_some,Option.some.injEq,Prod.mk.injEq]at c
  obtain⟨h,g,b⟩:=c
  have f:=run_make (P:=prog) a 25 80 i _ underlying25 d h .i64 .i64 (n:Int) (n:Int) (by omega) (by omega) (by rw[b];omega) (by omega)
  rw[f,g]
  have e:((n:Int)).toNat=n:=by omega
  rw[e];rfl
theorem zfI{w:C}{g n:Nat}{F W K:Nat->Int}(b:w.1[g]?=A (.cells (jn n F W K).toArray 80 (0,0))){B:Nat}(a:B<=g)(hn:n<=4):w.ownsRow B 80 3 (.slice (A ⟨g,0,O⟩) n n) n (jn n F W K):=
 ⟨by rw[xV],.inr ⟨g,n,(jn n F W K).toArray,rfl,a,b,⟨Y _,by simp only[maxLen];omega,by simp[xV],by show List.take (n*3) (jn n F W K)=_;exact List.take_of_length_le (by rw[xV];omega)⟩⟩⟩
theorem zau(c:Cf)(L:c.ok)(a:Option Addr)(cap:Nat)(w:C)(h:TS w a c.n c.F c.W c.K):
  Calls prog 30 #[.agg #[I J c.s,I J c.le,I J c.la,I J c.wi,I J c.ke,I J c.qu,.slice a c.n cap]] w fun e w'=>∃g,e=.returned (.agg #[I J c.s,I J c.le,I J c.la,I J c.wi,I J c.ke,I J c.qu,.slice (A ⟨g,0,O⟩) c.n c.n])/\w'.ownsRow w.1.size 80 3 (.slice (A ⟨g,0,O⟩) c.n c.n) c.n (jn c.n c.F c.W c.K)/\D w.1.size w w':=by
 have o:=L.n4
 have Z:=L.n1
 obtain⟨r,z,d,N⟩:=box2 w (.cells #[I J c.s,I J c.le,I J c.la,I J c.wi,I J c.ke,I J c.qu,.slice a c.n cap] 27) (.cells #[I J 0,I J 0,I J 0,I J 0,I J 0,I J 0,.slice O 0 0] 27)
 have X:=J2 c.n o
 have l:D (((w.alloc (.cells #[I J c.s,I J c.le,I J c.la,I J c.wi,I J c.ke,I J c.qu,.slice a c.n cap] 27)).alloc (.cells #[I J 0,I J 0,I J 0,I J 0,I J 0,I J 0,.slice O 0 0] 27)).1.size) ((w.alloc (.cells #[I J c.s,I J c.le,I J c.la,I J c.wi,I J c.ke,I J c.qu,.slice a c.n cap] 27)).alloc (.cells #[I J 0,I J 0,I J 0,I J 0,I J 0,I J 0,.slice O 0 0] 27)) (((w.alloc (.cells #[I J c.s,I J c.le,I J c.la,I J c.wi,I J c.ke,I J c.qu,.slice a c.n cap] 27)).alloc (.cells #[I J 0,I J 0,I J 0,I J 0,I J 0,I J 0,.slice O 0 0] 27)).alloc (.cells (qH c.n) 80)):=(G _ _).alloc (Y _) _
 have p:=(h.below d).below l
 obtain⟨f,S,H,b,hZ⟩:∃f,(Builtin.copy_ #[25,25] 3 #[.slice (A ⟨w.1.size+2,0,O⟩) c.n c.n,.slice a c.n cap]).run prog (((w.alloc (.cells #[I J c.s,I J c.le,I J c.la,I J c.wi,I J c.ke,I J c.qu,.slice a c.n cap] 27)).alloc (.cells #[I J 0,I J 0,I J 0,I J 0,I J 0,I J 0,.slice O 0 0] 27)).alloc (.cells (qH c.n) 80))=.ok (I J c.n) f/\f.1[w.1.size+2]?=A (.cells (jn c.n c.F c.W c.K).toArray 80 (0,0))/\D (w.1.size+2) (((w.alloc (.cells #[I J c.s,I J c.le,I J c.la,I J c.wi,I J c.ke,I J c.qu,.slice a c.n cap] 27)).alloc (.cells #[I J 0,I J 0,I J 0,I J 0,I J 0,I J 0,.slice O 0 0] 27)).alloc (.cells (qH c.n) 80)) f/\f.1.size=w.1.size+3:=by
  have u:=zm ((w.alloc (.cells #[I J c.s,I J c.le,I J c.la,I J c.wi,I J c.ke,I J c.qu,.slice a c.n cap] 27)).alloc (.cells #[I J 0,I J 0,I J 0,I J 0,I J 0,I J 0,.slice O 0 0] 27)) (.cells (qH c.n) 80)
  have x:=zL ((w.alloc (.cells #[I J c.s,I J c.le,I J c.la,I J c.wi,I J c.ke,I J c.qu,.slice a c.n cap] 27)).alloc (.cells #[I J 0,I J 0,I J 0,I J 0,I J 0,I J 0,.slice O 0 0] 27)) (.cells (qH c.n) 80)
  rw[N]at u x
  have M:=YI (P:=prog) (((w.alloc (.cells #[I J c.s,I J c.le,I J c.la,I J c.wi,I J c.ke,I J c.qu,.slice a c.n cap] 27)).alloc (.cells #[I J 0,I J 0,I J 0,I J 0,I J 0,I J 0,.slice O 0 0] 27)).alloc (.cells (qH c.n) 80)) 25 25 3 80 3 (w.1.size+2) c.n c.n a c.n cap (qH c.n) 80 (jn c.n c.F c.W c.K) underlying25 (by kernel_rfl) u
   (by rw[xV];simp) (zdZ p) (by rw[xV,jB];omega) (JZ _ _ _ _)
  have V:Nat.min c.n c.n=c.n:=by simp
  have T:(qH c.n).toList.drop (c.n*3)=[]:=by apply List.drop_of_length_le;rw[Array.length_toList,jB];omega
  rw[V,xV,T,List.append_nil]at M
  refine⟨_,M,setRow_heap _ _ _ _ _ _ u,below_setRow (G _ _) (Y _) _,?_⟩
  simp only[World.setRow]
  simp
 have t:=(b.block w.1.size (by omega)).trans ((l.block _ (za r)).trans r)
 have q:=(b.block (w.1.size+1) (by omega)).trans ((l.block _ (za z)).trans z)
 obtain⟨c0,c1,c2,c3,c4,c5,c6,-⟩:=zc t
 have cf:=fun j=>zE t j
 obtain⟨z0,z1,z2,z3,z4,z5,z6,-⟩:=zc q
 have zf:=fun j=>zE q j
 have l0:=za t
 have l1:=za q
 obtain⟨-,-,-,-,-,-,q6,-⟩:=zc r
 have yl:=za r
 have B:Hid (D w.1.size w f):=d.trans ((l.mono d.size).trans (b.mono (by omega)))
 have HR:=zd H
 have R:=zd q
 have YZ:=zd N
 clear l p H b t q r z d h
 go_enter func30,ntmps30
 go_wp2_with fail
 have y:=(zF (w:=f) (g:=w.1.size) (i:=6) (k:=w.1.size+1) (v:=.slice (A ⟨w.1.size+2,0,O⟩) c.n c.n) (by omega)).trans (ud R)
 have U:=set7 y (I J c.s) (I J c.le) (I J c.la) (I J c.wi) (I J c.ke) (I J c.qu) (.slice (A ⟨w.1.size+2,0,O⟩) c.n c.n)
 have m:zo (fun k=>k=w.1.size\/k=w.1.size+1) f ((((((((f.setCell ⟨w.1.size,6,O⟩ (.slice (A ⟨w.1.size+2,0,O⟩) c.n c.n)).setCell ⟨w.1.size+1,0,O⟩ (I J c.s)).setCell ⟨w.1.size+1,1,O⟩ (I J c.le)).setCell ⟨w.1.size+1,2,O⟩ (I J c.la)).setCell ⟨w.1.size+1,3,O⟩ (I J c.wi)).setCell ⟨w.1.size+1,4,O⟩ (I J c.ke)).setCell ⟨w.1.size+1,5,O⟩ (I J c.qu)).setCell ⟨w.1.size+1,6,O⟩ (.slice (A ⟨w.1.size+2,0,O⟩) c.n c.n)):=zi (zi (zi (zi (zi (zi (zi (zi (zo.refl _ _) (.inl rfl)) (.inr rfl)) (.inr rfl)) (.inr rfl)) (.inr rfl)) (.inr rfl)) (.inr rfl)) (.inr rfl)
 refine bodyPost_ret (v:=.agg #[I J c.s,I J c.le,I J c.la,I J c.wi,I J c.ke,I J c.qu,.slice (A ⟨w.1.size+2,0,O⟩) c.n c.n]) (results_cell_row results30 _ _ (w.1.size+1) _ _ _ _ rfl U underlying27 rfl (by kernel_rfl)) rfl ?_
 exact⟨w.1.size+2,rfl,zfI (m.heap (ud HR) (by omega)) (by omega) o,(ud B).trans (m.below (ud B).size (fun k e=>by rcases e with rfl|rfl<;>omega))⟩
def jk(q:JM)(a:ByteArray):JM:={q with S:=VF q.S a}
def zjO(q:JM)(a:ByteArray):JM:={q with st:=JY q.S a q.st,S:=zbn q.S a}
def vE(w':C)(i:Ids)(c:Cf)(ep:Int)(m:MS)(q:JM)(now:Int)(xs:List SX)(e:Ending):Prop:=
 (vw q.S (xT now xs)=false/\e=.returned (I J 13)/\zN w' i c ep m {jk q (xT now xs)with dn:=true})
 \/(vw q.S (xT now xs)=true/\e=.returned (I J 0)/\((Yq (VF q.S (xT now xs)) q.st=false/\zN w' i c ep (m.took now xs) (jk q (xT now xs)))\/(Yq (VF q.S (xT now xs)) q.st=true/\∃a:List SX,a.Perm (Zk (m.took now xs).L (m.took now xs).Gl)/\zN w' i c ep (m.took now xs) (zjO (jk q (xT now xs)) (xT now a)))))
theorem Xb{w w':C}{i:Ids}{c:Cf}{ep:Int}{m:MS}{q:JM}{base:Nat}{v:Value}{xs:List SX}(h:zN w i c ep m q)(x:Kx i w w')(hv:vu w base v xs):vu w' base v xs:=zk hv x.kept (fun k p e=>by
 obtain⟨u,o⟩:=zG hv p
 obtain⟨fs,s⟩:=h.jrn
 have r:¬jm i k:=fun e=>by
  rcases h.otag k e with⟨l,y,n,b,f⟩|⟨B,z,t⟩
  ·have g:=jj o b
   rcases f with a|a|a|a<;>(rw[a]at g;exact absurd g (by decide))
  ·rw[o]at t;cases t
 have hn:¬vO i.j i.d fs k:=fun e=>by
  obtain⟨l,y,n,b,f⟩:=s.tag k e
  have g:=jj o b
  rcases f with a|a|a<;>(rw[a]at g;exact absurd g (by decide))
 rcases e with(e|e|e|e|e)|e
 ·exact r (.inl e)
 ·exact r (.inr (.inl e))
 ·exact r (.inr (.inr e))
 ·exact hn (.inl e)
 ·exact hn (.inr (.inl e))
 ·exact hn (.inr (.inr (s.fsB▸e))))
theorem zfW(m:MS)(now:Int)(xs:List SX):(m.took now xs).L.length<=m.L.length+xs.length/\(m.took now xs).Gl.length<=m.Gl.length+xs.length:=by
 have h:=XY xs (m.Gl,m.L)
 exact⟨h.2,h.1⟩
theorem zgu{S:DS}{N:Nat}(h:DOk S N)(a:ByteArray):DOk (VF S a) (N+a.size+3):=by
 have b:=kM h yc (a++nl)
 rw[XQ]at b
 unfold VF;split
 ·exact yH b (by omega)
 ·exact yH (ZZ b yc) (by omega)
theorem jO{w:C}{i:Ids}{c:Cf}{ep:Int}{m:MS}{q:JM}(h:zN w i c ep m q)(now:Int)(H:xh now)(xs:List SX)(a4:∀x∈xs,okX x)(a5:∀x∈Zk (m.took now xs).L (m.took now xs).Gl,okX x)(aF:xs.length<=1000)(aD:m.L.length<=900000)(aE:m.Gl.length<=49000000)(N:Nat)(hN:N<=900000000000)(hd:DOk q.S N)(ap:0<=q.st/\q.st<=1099511627776)(base:Nat)(v:Value)(hv:vu w base v xs):
  Calls prog 52 #[.pointer (A ⟨i.x,0,O⟩),I J now,v] w fun e w'=>vE w' i c ep m q now xs e/\Kx i w w':=by
 obtain⟨ad,cap,rfl⟩:=hv.slice
 have aG:(xT now xs).size<=200000:=by
  rw[Zb];have:=Zc H a4;omega
 obtain⟨X,a2⟩:∃X,w.alloc (.cells #[I J now,.slice ad xs.length cap] 190)=X:=⟨_,rfl⟩
 have z:D w.1.size w X:=by rw[<-a2];exact(G _ _).alloc (Y _) _
 have a3:X.1[w.1.size]?=A (.cells #[I J now,.slice ad xs.length cap] 190 (0,0)):=by rw[<-a2];exact zm _ _
 have r:=h.later z
 have a8:vu X base (.slice ad xs.length cap) xs:=xm hv z
 have a6:=fun W (hW:D X.1.size X W)=>zd (VD now H xs a4 (by omega) _ W (a8.rd.later hW) (jC r.tab hW))
 have a0:=a6 X (G _ _)
 have a1:=a6 X.drew (G _ _).drew
 have n:=fun W (hW:D X.1.size X W)=>(by
  obtain⟨fs,hj⟩:=(r.later hW).jrn
  exact(zhp hj (xT now xs) N (by omega) hd).mono fun e w' ⟨he,az,h1,h2,h3⟩=>(⟨he,(r.later hW).putJrn hj ⟨az,h1,jf h2,h3⟩⟩:e=.returned (.bool (vw q.S (xT now xs)))/\zN w' i c ep m (jk q (xT now xs))/\Kx i W w'):Calls prog 107 #[.pointer (A ⟨i.j,0,O⟩),.string (xT now xs)] W fun e w'=>e=.returned (.bool (vw q.S (xT now xs)))/\zN w' i c ep m (jk q (xT now xs))/\Kx i W w')
 obtain⟨-,-,-,aq,-⟩:=r.cells
 obtain⟨b0,b1,-⟩:=zc a3
 have lx:=r.lt
 have lb:=za a3
 have o:=zd r
 have P:=zd a8
 have aC:=zd a3
 have aj:=zd a2
 have K:=zd (Kx.below z h.dlt)
 have B:=zgu hd (xT now xs)
 have F:∀W,D X.1.size X W->¬zY W i w.1.size:=fun W hW e=>by
  have h1:=h.foot_lt w.1.size (by
   rcases e with e|e
   ·exact .inl e
   ·right
    obtain⟨fs,hj⟩:=h.jrn
    have h2:fsB W i.d=fsB w i.d:=by
     unfold fsB
     rw[(hW.trans (G _ _)).cell (p:=⟨i.d,0,O⟩) r.dlt,z.cell (p:=⟨i.d,0,O⟩) h.dlt]
    rw[<-h2];exact e)
  omega
 have f:=zd F
 unfold vE
 clear h z a3 r a8 a2 hv a6 F hd
 cases ao:vw q.S (xT now xs)
 ·simp only[ao]at n
  go_enter func52,ntmps52
  go_wp2_with fail
  rw[ud aj]
  go_region_held3 (fun w'=>w'.cell? ⟨i.x,11,O⟩=A (.pointer (A ⟨i.j,0,O⟩))/\w'.cell? ⟨w.1.size,0,O⟩=A (I J now)/\w'.cell? ⟨w.1.size,1,O⟩=A (.slice ad xs.length cap)) (go_keep) (first
   |(go_at_call 108;(first|(with_reducible refine(ud a0).mono ?_)|(with_reducible refine(ud a1).mono ?_));rintro e V ⟨rfl,b⟩;have g:D X.1.size X V:=⟨b.os,b.tape,b.output,b.size,b.block⟩;have aB:=(g.cell (p:=⟨i.x,11,O⟩) lx).trans aq;have v0:=(g.cell (p:=⟨w.1.size,0,O⟩) lb).trans b0;have v1:=(g.cell (p:=⟨w.1.size,1,O⟩) lb).trans b1;have s:=E lb g.size;have t:=zd (n V g);have u:=zd (n V.drew g.drew);unfold xT at t u;have a:=zd g;clear g b n a0 a1)
   |(go_at_call 107;(with_reducible refine(ud t).mono ?_);rintro e T ⟨rfl,l,k⟩;obtain⟨-,-,-,aa,ab⟩:=l.cells;have ac:=zE l.head 12;have t0:=(zM (i:=0) k.kept (ud f _ (ud a)) s).trans v0;have t1:=(zM (i:=1) k.kept (ud f _ (ud a)) s).trans v1;have lT:=E s k.size;have a9:=l.lt;have M:=zd (Xb ((ud o).later (ud a)) k (xm (ud P) (ud a)));have HM:=zd l;have HK:=zd (((ud K).trans (Kx.below (ud a) (ud o).dlt)).trans k);clear l k)
   |(go_at_call 107;(with_reducible refine(ud u).mono ?_);rintro e T ⟨rfl,l,k⟩;obtain⟨-,-,-,aa,ab⟩:=l.cells;have ac:=zE l.head 12;have t0:=(zM (i:=0) k.kept (ud f _ (ud a).drew) s).trans v0;have t1:=(zM (i:=1) k.kept (ud f _ (ud a).drew) s).trans v1;have lT:=E s k.size;have a9:=l.lt;have M:=zd (Xb ((ud o).later (ud a).drew) k (xm (ud P) (ud a).drew));have HM:=zd l;have HK:=zd (((ud K).trans (Kx.below (ud a).drew (ud o).dlt)).trans k);clear l k))
  all_goals go_wp2_with fail
  all_goals go_ret
  all_goals exact⟨.inl ⟨trivial,rfl,(ud HM).setDown.1⟩,(ud HK).trans (ud HM).setDown.2⟩
 ·simp only[ao]at n
  have aA:=zfW m now xs
  have ai:=fun T (hT:zN T i c ep m (jk q (xT now xs))) (hR:vu T base (.slice ad xs.length cap) xs)=>zd (zfS hT now xs (fun x hx=>(a4 x hx).key) (by omega) (by omega) base _ hR)
  have af:=fun T (hT:zN T i c ep (m.took now xs) (jk q (xT now xs)))=>(by
   obtain⟨fs,hj⟩:=hT.jrn
   exact zd (zfk hj (N+(xT now xs).size+3) (by omega) B ap):Hid (Calls prog 110 #[.pointer (A ⟨i.j,0,O⟩)] T fun e w'=>e=.returned (.bool (Yq (VF q.S (xT now xs)) q.st))/\D T.1.size T w'))
  have ay:=fun T (hT:zN T i c ep (m.took now xs) (jk q (xT now xs)))=>zd (QJ hT H a5 (by omega) (by omega) (N+(xT now xs).size+3) (by omega) B)
  clear a4 a5 B ap aA
  go_enter func52,ntmps52
  go_wp2_with fail
  rw[ud aj]
  go_region_held3 (fun w'=>w'.cell? ⟨i.x,11,O⟩=A (.pointer (A ⟨i.j,0,O⟩))/\w'.cell? ⟨w.1.size,0,O⟩=A (I J now)/\w'.cell? ⟨w.1.size,1,O⟩=A (.slice ad xs.length cap)) (go_keep) (first
   |(go_at_call 108;(first|(with_reducible refine(ud a0).mono ?_)|(with_reducible refine(ud a1).mono ?_));rintro e V ⟨rfl,b⟩;have g:D X.1.size X V:=⟨b.os,b.tape,b.output,b.size,b.block⟩;have aB:=(g.cell (p:=⟨i.x,11,O⟩) lx).trans aq;have v0:=(g.cell (p:=⟨w.1.size,0,O⟩) lb).trans b0;have v1:=(g.cell (p:=⟨w.1.size,1,O⟩) lb).trans b1;have s:=E lb g.size;have t:=zd (n V g);have u:=zd (n V.drew g.drew);unfold xT at t u;have a:=zd g;clear g b n a0 a1)
   |(go_at_call 107;(with_reducible refine(ud t).mono ?_);rintro e T ⟨rfl,l,k⟩;obtain⟨-,-,-,aa,ab⟩:=l.cells;have ac:=zE l.head 12;have t0:=(zM (i:=0) k.kept (ud f _ (ud a)) s).trans v0;have t1:=(zM (i:=1) k.kept (ud f _ (ud a)) s).trans v1;have lT:=E s k.size;have a9:=l.lt;have M:=zd (Xb ((ud o).later (ud a)) k (xm (ud P) (ud a)));have HM:=zd l;have HK:=zd (((ud K).trans (Kx.below (ud a) (ud o).dlt)).trans k);clear l k)
   |(go_at_call 107;(with_reducible refine(ud u).mono ?_);rintro e T ⟨rfl,l,k⟩;obtain⟨-,-,-,aa,ab⟩:=l.cells;have ac:=zE l.head 12;have t0:=(zM (i:=0) k.kept (ud f _ (ud a).drew) s).trans v0;have t1:=(zM (i:=1) k.kept (ud f _ (ud a).drew) s).trans v1;have lT:=E s k.size;have a9:=l.lt;have M:=zd (Xb ((ud o).later (ud a).drew) k (xm (ud P) (ud a).drew));have HM:=zd l;have HK:=zd (((ud K).trans (Kx.below (ud a).drew (ud o).dlt)).trans k);clear l k))
  all_goals go_wp2_with fail
  all_goals(
   refine(ud (ai T (ud HM) (ud M))).mono ?_
   rintro e U ⟨rfl,y,al⟩
   obtain⟨-,-,-,aH,-⟩:=y.cells
   have lu:=y.lt
   have av:=af U y
   have ag:=zd y
   have au:=zd ((ud HK).trans al)
   clear y al ai af
   go_wp2_with fail
   refine(ud av).mono ?_
   rintro e Z ⟨rfl,a7⟩
   have ah:=zd ((ud ag).later a7)
   have ae:=zd ((ud au).trans (Kx.below a7 (ud ag).dlt))
   clear a7
   cases an:Yq (VF q.S (xT now xs)) q.st
   ·go_wp2_with fail
    go_ret
    exact⟨.inr ⟨trivial,rfl,.inl ⟨an,ud ah⟩⟩,ud ae⟩
   ·go_wp2_with fail
    refine(ud (ay Z (ud ah))).mono ?_
    rintro e R ⟨ys,hp,rfl,am,ak⟩
    have ax:=zd hp
    have aw:=zd am
    have ar:=zd ((ud ae).trans ak)
    clear hp am ak
    go_wp2_with fail
    go_ret
    exact⟨.inr ⟨trivial,rfl,.inr ⟨an,ys,ud ax,ud aw⟩⟩,ud ar⟩)
def qk(v:SV):Cl×Int:=if v.st=0 then(xY,10)else if v.st=2 then(xY,11)else if v.st=4 then(xY,12)else(v.cl,0)
def xB(c:Cf)(now:Int)(Gl:List (Sg×Unit))(L:LV)(t sr wa:Int):Cl×Int:=
 if now-c.la<(wa+1)*c.wt t then(xY,9)else qk (stG Gl L ⟨t,sr,wa⟩)
theorem zhx{dn:Bool}{w:C}{i:Ids}{c:Cf}{ep:Int}{m:MS}(h:xz dn w i c ep m)(hc:c.ok)(T:0<=m.now/\m.now<=100000)(t sr wa:Int)(ht: -1<=t/\t<c.n)(U:0<=sr/\sr<4)(Z:0<=wa/\wa<=100000):
  Calls prog 57 #[.pointer (A ⟨i.x,0,O⟩),I J t,I J sr,I J wa] w fun e w'=>e=.returned (.tuple #[.agg #[I J (xB c m.now m.Gl m.L t sr wa).1.cnt,I J (xB c m.now m.Gl m.L t sr wa).1.sum,I Q (xB c m.now m.Gl m.L t sr wa).1.mn,I Q (xB c m.now m.Gl m.L t sr wa).1.mx],I J (xB c m.now m.Gl m.L t sr wa).2])/\D w.1.size w w':=by
 obtain⟨a,cap,a4,V⟩:=h.ts
 have a8:=h.lt
 have z:D w.1.size w (w.alloc (.cells #[I J 0,I J 0,I Q 0,I Q 0] 115)):=(G _ _).alloc (Y _) _
 obtain⟨c0,c1,c2,c3,c4,c5,c6,-,c8,c9,-⟩:=(h.later z).cells
 rw[a4]at c6
 have s:=zd z
 have d:=zd (zm w (.cells #[I J 0,I J 0,I Q 0,I Q 0] 115))
 have b:w.1.size<(w.alloc (.cells #[I J 0,I J 0,I Q 0,I Q 0] 115)).1.size:=by rw[zL];omega
 have r:i.x<(w.alloc (.cells #[I J 0,I J 0,I Q 0,I Q 0] 115)).1.size:=by rw[zL];omega
 have HH:=zd (zfi c hc a cap t (w.alloc (.cells #[I J 0,I J 0,I Q 0,I Q 0] 115)))
 have a6:=hc.n4
 rw[show inB t (-1) ((c.n:Int)-1)=true from by rw[kH];omega]at HH
 have HS:=fun W=>zd (XG sr W U)
 have a9:decide (wa<0)=false:=by simp;omega
 have aa:decide (100000<wa)=false:=by simp;omega
 have HC:=fun(W:C) (hb:D (w.alloc (.cells #[I J 0,I J 0,I Q 0,I Q 0] 115)).1.size (w.alloc (.cells #[I J 0,I J 0,I Q 0,I Q 0] 115)) W)=>zd (XM c hc a cap t wa m.now ht.1 ht.2 Z T W.drew (V.below (z.trans (hb.mono z.size)).drew))
 have X:(⟨t,sr,wa⟩:Sg).wf:=by refine⟨?_,?_,?_⟩<;>unfold xh<;>simp only<;>omega
 have R:=fun(W:C) (hb:D (w.alloc (.cells #[I J 0,I J 0,I Q 0,I Q 0] 115)).1.size (w.alloc (.cells #[I J 0,I J 0,I Q 0,I Q 0] 115)) W)=>zd (KU ((h.later z).later hb).set ⟨t,sr,wa⟩ X)
 have K9:=c9
 clear z h V X
 by_cases p5:m.now-c.la<(wa+1)*c.wt t
 case' pos=>
  rw[show xB c m.now m.Gl m.L t sr wa=(xY,9)from by unfold xB;rw[if_pos p5]]
  rw[show decide ((wa+1)*c.wt t<=m.now-c.la)=false from by simp;omega]at HC
  clear p5
 case' neg=>
  rw[show xB c m.now m.Gl m.L t sr wa=qk (stG m.Gl m.L ⟨t,sr,wa⟩)from by unfold xB;rw[if_neg p5]]
  rw[show decide ((wa+1)*c.wt t<=m.now-c.la)=true from by simp;omega]at HC
  unfold clV at R
  dsimp only at R
  generalize stG m.Gl m.L ⟨t,sr,wa⟩=v at*
  clear p5
  by_cases F:v.st=0
  case' pos=>
   rw[show qk v=(xY,10)from by unfold qk;rw[if_pos F]]
   have q6:(v.st==0)=true:=by simp[F]
   clear F
  case' neg=>
   have q6:(v.st==0)=false:=by simp[F]
   by_cases N:v.st=2
   case' pos=>
    rw[show qk v=(xY,11)from by unfold qk;rw[if_neg F,if_pos N]]
    have q7:(v.st==2)=true:=by simp[N]
    clear F N
   case' neg=>
    have q7:(v.st==2)=false:=by simp[N]
    by_cases P:v.st=4
    case' pos=>
     rw[show qk v=(xY,12)from by unfold qk;rw[if_neg F,if_neg N,if_pos P]]
     have q8:(v.st==4)=true:=by simp[P]
     clear F N P
    case' neg=>
     have q8:(v.st==4)=false:=by simp[P]
     rw[show qk v=(v.cl,0)from by unfold qk;rw[if_neg F,if_neg N,if_neg P]]
     clear F N P
 all_goals
  go_enter func57,ntmps57
  go_wp2_with(first|(go_at_call 116;refine(ud HH).mono ?_;rintro e w1 ⟨rfl,f⟩;have m0:=(f.cell (p:=⟨i.x,0,O⟩) r).trans c0;have m1:=(f.cell (p:=⟨i.x,1,O⟩) r).trans c1;have m2:=(f.cell (p:=⟨i.x,2,O⟩) r).trans c2;have m3:=(f.cell (p:=⟨i.x,3,O⟩) r).trans c3;have m4:=(f.cell (p:=⟨i.x,4,O⟩) r).trans c4;have m5:=(f.cell (p:=⟨i.x,5,O⟩) r).trans c5;have m6:=(f.cell (p:=⟨i.x,6,O⟩) r).trans c6;have m8:=(f.cell (p:=⟨i.x,8,O⟩) r).trans c8;have m9:=(f.cell (p:=⟨i.x,9,O⟩) r).trans c9;obtain⟨y0,y1,y2,y3,-⟩:=zc (((f.block w.1.size b).trans (ud d)));have yf:=fun j=>zE ((f.block w.1.size b).trans (ud d)) j;have H:=zd f)|(go_at_call 60;refine(ud (HS _)).mono ?_;rintro e W9 ⟨rfl,h9⟩;have a2:=h9.symm;subst a2))
  have a0:=HC w1 (ud H)
  have a5:=E r (ud H).size
  clear y0 y1 y2 y3 yf f c0 c1 c2 c3 c4 c5 c6 c8 c9 HC HS HH
  refine xo 10 (by kernel_rfl) (by kernel_rfl) ?_
  simp only[List.take_succ_cons,List.take_zero,List.drop_succ_cons,List.drop_zero]
  repeat still_step
  refine wpStill_nil ?_
  go_wp2_with(first|(go_at_call 117;refine(ud a0).mono ?_;rintro e w3 ⟨rfl,a3⟩;have y:D _ _ w3:=(ud H).trans ((zjI a3).mono (ud H).size);have n9:=(y.cell (p:=⟨i.x,9,O⟩) r).trans K9;obtain⟨y0,y1,y2,y3,-⟩:=zc (((y.block w.1.size b).trans (ud d)));have yf:=fun j=>zE ((y.block w.1.size b).trans (ud d)) j;have u:=zd y))
 rotate_right
 ·clear R
  have K:=((ud u).block w.1.size b).trans (ud d)
  have M:=YL K (I J 0) (I J 0) (I Q 0) (I Q 0)
  refine bodyPost_ret (v:=.tuple #[.agg #[I J 0,I J 0,I Q 0,I Q 0],I J 9]) (zR results57 _ _ w.1.size _ _ _ _ _ rfl rfl M underlying115 rfl (by kernel_rfl)) rfl ?_
  exact⟨rfl,(ud s).trans (((ud u).mono (ud s).size).trans (below4 (Y _) _ _ _ _))⟩
 all_goals
  have a1:=R w3 (ud u)
  clear R y0 y1 y2 y3 yf
  refine(ud a1).mono ?_
  rintro e w4 ⟨rfl,S⟩
  have l:=(ud u).trans (S.mono (ud u).size)
  obtain⟨y0,-⟩:=zc (((l.block w.1.size b).trans (ud d)))
  obtain⟨-,y1,-⟩:=zc (((l.block w.1.size b).trans (ud d)))
  obtain⟨-,-,y2,-⟩:=zc (((l.block w.1.size b).trans (ud d)))
  obtain⟨-,-,-,y3,-⟩:=zc (((l.block w.1.size b).trans (ud d)))
  have yf:=fun j=>zE ((l.block w.1.size b).trans (ud d)) j
  have a7:w.1.size<w4.1.size:=E b l.size
  have k:=zd l
  clear S l
  go_wp2_with fail
 ·skip
  have K:=((ud k).block w.1.size b).trans (ud d)
  have q:=YL K (I J v.cl.cnt) (I J v.cl.sum) (I Q v.cl.mn) (I Q v.cl.mx)
  have M:=(Below.heap_alloc _ (.cells #[I J v.cl.cnt,I J v.cl.sum,I Q v.cl.mn,I Q v.cl.mx] 115) _ (za q)).trans q
  have o:=(ud s).trans (((ud k).mono (ud s).size).trans (below4 (w:=w4) (g:=w.1.size) (B:=w.1.size) (Y _) (I J v.cl.cnt) (I J v.cl.sum) (I Q v.cl.mn) (I Q v.cl.mx)))
  refine bodyPost_ret (v:=.tuple #[.agg #[I J v.cl.cnt,I J v.cl.sum,I Q v.cl.mn,I Q v.cl.mx],I J 0]) (zR results57 _ _ w.1.size _ _ _ _ _ rfl rfl M underlying115 rfl (by kernel_rfl)) rfl ?_
  exact⟨rfl,o.alloc o.size _⟩
 ·skip
  have K:=((ud k).block w.1.size b).trans (ud d)
  have q:=YL K (I J 0) (I J 0) (I Q 0) (I Q 0)
  have M:=(Below.heap_alloc _ (.cells #[I J v.cl.cnt,I J v.cl.sum,I Q v.cl.mn,I Q v.cl.mx] 115) _ (za q)).trans q
  have o:=(ud s).trans (((ud k).mono (ud s).size).trans (below4 (w:=w4) (g:=w.1.size) (B:=w.1.size) (Y _) (I J 0) (I J 0) (I Q 0) (I Q 0)))
  refine bodyPost_ret (v:=.tuple #[.agg #[I J 0,I J 0,I Q 0,I Q 0],I J 12]) (zR results57 _ _ w.1.size _ _ _ _ _ rfl rfl M underlying115 rfl (by kernel_rfl)) rfl ?_
  exact⟨rfl,o.alloc o.size _⟩
 ·skip
  have K:=((ud k).block w.1.size b).trans (ud d)
  have q:=YL K (I J 0) (I J 0) (I Q 0) (I Q 0)
  have M:=(Below.heap_alloc _ (.cells #[I J v.cl.cnt,I J v.cl.sum,I Q v.cl.mn,I Q v.cl.mx] 115) _ (za q)).trans q
  have o:=(ud s).trans (((ud k).mono (ud s).size).trans (below4 (w:=w4) (g:=w.1.size) (B:=w.1.size) (Y _) (I J 0) (I J 0) (I Q 0) (I Q 0)))
  refine bodyPost_ret (v:=.tuple #[.agg #[I J 0,I J 0,I Q 0,I Q 0],I J 11]) (zR results57 _ _ w.1.size _ _ _ _ _ rfl rfl M underlying115 rfl (by kernel_rfl)) rfl ?_
  exact⟨rfl,o.alloc o.size _⟩
 ·skip
  have K:=((ud k).block w.1.size b).trans (ud d)
  have q:=YL K (I J 0) (I J 0) (I Q 0) (I Q 0)
  have M:=(Below.heap_alloc _ (.cells #[I J v.cl.cnt,I J v.cl.sum,I Q v.cl.mn,I Q v.cl.mx] 115) _ (za q)).trans q
  have o:=(ud s).trans (((ud k).mono (ud s).size).trans (below4 (w:=w4) (g:=w.1.size) (B:=w.1.size) (Y _) (I J 0) (I J 0) (I Q 0) (I Q 0)))
  refine bodyPost_ret (v:=.tuple #[.agg #[I J 0,I J 0,I Q 0,I Q 0],I J 10]) (zR results57 _ _ w.1.size _ _ _ _ _ rfl rfl M underlying115 rfl (by kernel_rfl)) rfl ?_
  exact⟨rfl,o.alloc o.size _⟩
theorem Q9{w':C}{i:Ids}{c:Cf}{ep:Int}{m:MS}{q:JM}{now:Int}{xs:List SX}{e:Ending}(h:vE w' i c ep m q now xs e):∃r:Int,e=.returned (I J r):=by
 rcases h with⟨_,h,_⟩|⟨_,h,_⟩<;>exact⟨_,h⟩
theorem Vn{w':C}{i:Ids}{c:Cf}{ep:Int}{m:MS}{q:JM}{now:Int}{xs:List SX}{e:Ending}(h:vE w' i c ep m q now xs e):∃m' a,zN w' i c ep m' a/\(m'=m\/m'=m.took now xs):=by
 rcases h with⟨_,_,h⟩|⟨_,_,⟨_,h⟩|⟨_,b,_,h⟩⟩
 ·exact⟨_,_,h,.inl rfl⟩
 ·exact⟨_,_,h,.inr rfl⟩
 ·exact⟨_,_,h,.inr rfl⟩
theorem Zg{w':C}{i:Ids}{c:Cf}{ep:Int}{m:MS}{q:JM}{xs:List SX}{e:Ending}(h:vE w' i c ep m q m.now xs e):w'.cell? ⟨i.x,8,O⟩=A (I J m.now)/\w'.cell? ⟨i.x,9,O⟩=A (.pointer (A ⟨i.s,0,O⟩)):=by
 obtain⟨m',g,d,f⟩:=Vn h
 obtain⟨a,b,-⟩:=d.cells
 refine⟨?_,b⟩
 rw[a]
 rcases f with rfl|rfl<;>rfl
theorem zjN{w:C}{i:Ids}{c:Cf}{ep:Int}{m:MS}{q:JM}(h:zN w i c ep m q)(hc:c.ok)(sr tm val:Int)(z:0<=sr/\sr<4)(P:0<=tm/\tm<=m.now)(aG:m.now-c.la<=tm)(aw:m.now<=100000)(ae: -2147483648<=val/\val<=2147483647)(hu:0<=zp m.L/\zp m.L<=1000)(ap:zie m.L)(an:∀k:Nat,k<c.n->zQ m.Gl (xW c sr tm k)=O)(aD:zp m.L+(1+2*yi c m.L ⟨sr,tm,val⟩ c.n)<=c.qu)(ad:∀p∈m.L,p.1.t= -1->p.2.cl.small)
  (ac:∀x∈yZ c m.Gl m.L ⟨sr,tm,val⟩,okX x) (X:∀x∈Zk (m.took m.now (yZ c m.Gl m.L ⟨sr,tm,val⟩)).L (m.took m.now (yZ c m.Gl m.L ⟨sr,tm,val⟩)).Gl,okX x) (am:(yZ c m.Gl m.L ⟨sr,tm,val⟩).length<=1000) (al:m.L.length<=900000) (ak:m.Gl.length<=49000000) (N:Nat) (hN:N<=900000000000) (hd:DOk q.S N) (ao:0<=q.st/\q.st<=1099511627776):
  Calls prog 27 #[.pointer (A ⟨i.x,0,O⟩),I J sr,I J tm,I Q val] w fun e w'=>vE w' i c ep m q m.now (yZ c m.Gl m.L ⟨sr,tm,val⟩) e/\Kx i w w':=by
 obtain⟨a,cap,av,au⟩:=h.own.ts
 obtain⟨c0,c1,c2,c3,c4,c5,c6,c7,c8,c9,-⟩:=h.own.cells
 rw[av]at c6
 have f:=h.lt
 obtain⟨aJ,aK⟩:=hc.qu
 obtain⟨aE,aF⟩:=hc.la
 have aH:=qS c m.L ⟨sr,tm,val⟩ c.n
 have aI:=hc.n4
 have HU:=fun W hW=>zd (Z9 ((h.later (w':=W) hW).set) (by unfold xh;omega))
 have a7:=fun W hW=>zd (KT ((h.later (w':=W) hW).set) hc sr tm val z ⟨P.1,by omega⟩ ap an)
 have HQ:=fun W=>zd (Zu c a cap W)
 have a9:=fun W=>zd (Yp c a cap W)
 have a8:=fun W=>zd (XG sr W z)
 obtain⟨aL,aM⟩:=hu
 have az:decide (tm<0)=false:=by simp;omega
 have aA:decide (m.now<tm)=false:=by simp;omega
 have aB:decide (tm<m.now-c.la)=false:=by simp;omega
 have H:=zd h
 have Z:=fun W hW=>zd (zba ((h.later (w':=W) hW).set) hc sr tm val z ⟨P.1,by omega⟩ ae ad)
 generalize aC:yZ c m.Gl m.L ⟨sr,tm,val⟩=xs at*
 have a0:=fun W (hW:D w.1.size w W) base v hv=>zd (jO (h.later hW) m.now (by unfold xh;omega) xs ac X am al ak N hN hd ao base v hv)
 clear ac X ad hd
 generalize aj:zp m.L=U at*
 generalize ai:yi c m.L ⟨sr,tm,val⟩ c.n=M at*
 obtain⟨aq,ar⟩:=P
 have P:0<=tm/\tm<=m.now:=⟨aq,ar⟩
 clear h au aj ai
 go_enter func27,ntmps27
 go_wp2_with(first|(go_at_call 60;refine(ud (a8 _)).mono ?_;rintro e W9 ⟨rfl,h9⟩;have ah:=h9.symm;subst ah))
 have ab:Nonempty (zU w.1.size w):=zU.some _ _
 have aa:=fun(u:zU w.1.size w) b o h=>u.cell b o h
 refine zv w.1.size (by kernel_rfl) (by kernel_rfl) ?_
 repeat(go_big_quiet_step (first
  |(go_at_call 61;exact Calls.later (Y _) (ud (a9 _)))))
 refine wpQuiet_nil ?_
 rintro⟨w1,d⟩
 dsimp only
 clear aa ab
 go_wp2_with fail
 have d0:=(d.cell (p:=⟨i.x,0,O⟩) f).trans c0
 have d1:=(d.cell (p:=⟨i.x,1,O⟩) f).trans c1
 have d2:=(d.cell (p:=⟨i.x,2,O⟩) f).trans c2
 have d3:=(d.cell (p:=⟨i.x,3,O⟩) f).trans c3
 have d4:=(d.cell (p:=⟨i.x,4,O⟩) f).trans c4
 have d5:=(d.cell (p:=⟨i.x,5,O⟩) f).trans c5
 have d6:=(d.cell (p:=⟨i.x,6,O⟩) f).trans c6
 have d7:=(d.cell (p:=⟨i.x,7,O⟩) f).trans c7
 have d8:=(d.cell (p:=⟨i.x,8,O⟩) f).trans c8
 have d9:=(d.cell (p:=⟨i.x,9,O⟩) f).trans c9
 have ax:=E f d.size
 have g:=zd d
 clear c0 c1 c2 c3 c4 c5 c6 c7 c8 c9 d
 have a2:Nonempty (zU w1.1.size w1):=zU.some _ _
 have a1:=fun(u:zU w1.1.size w1) b o h=>u.cell b o h
 refine zv w1.1.size (by kernel_rfl) (by kernel_rfl) ?_
 repeat(go_big_quiet_step (first
  |(go_at_call 43;exact Calls.later (Y _) (ud (HU _ ((ud g).trans (Below.mono (Subtype.property _) (ud g).size)))))
  |(go_at_call 62;exact Calls.later (Y _) (ud (a7 _ ((ud g).trans (Below.mono (Subtype.property _) (ud g).size)))))
  |(go_at_call 63;exact Calls.later (Y _) (ud (HQ _)))))
 refine wpQuiet_nil ?_
 rintro⟨w2,R⟩
 dsimp only
 clear a1 a2
 have l:=zd ((ud g).trans (R.mono (ud g).size))
 clear R d0 d1 d2 d3 d4 d5 d6 d7 d8 d9
 have B:=(ud H).later (ud l)
 obtain⟨-,-,-,-,-,-,-,-,e8,e9,-⟩:=B.own.cells
 have a3:=B.lt
 have a4:=Z w2 (ud l)
 have a5:=Z w2.drew (ud l).drew
 have ay:=zd B
 clear B Z a7 HU HQ a9 a8
 go_wp2_with fail
 go_region_held3 (fun w'=>w'.cell? ⟨i.x,8,O⟩=A (I J m.now)/\w'.cell? ⟨i.x,9,O⟩=A (.pointer (A ⟨i.s,0,O⟩))) (go_keep) (first
  |(go_at_call 64;(first|(with_reducible refine(ud a4).mono ?_)|(with_reducible refine(ud a5).mono ?_));rintro e V ⟨v,rfl,y,j⟩;have hv:D w2.1.size w2 V:=⟨j.os,j.tape,j.output,j.size,j.block⟩;clear j;have v8:=(hv.cell (p:=⟨i.x,8,O⟩) a3).trans e8;have v9:=(hv.cell (p:=⟨i.x,9,O⟩) a3).trans e9;have aN:=E a3 hv.size;have K:=(ud l).trans (hv.mono (ud l).size);have af:=a0 V K _ v y;have ag:=a0 V.drew K.drew _ v (xm y (G _ _).drew);have a6:=zd K;clear hv K y a0 a4 a5)
  |(go_at_call 52;(with_reducible refine(ud af).mono ?_);rintro e T ⟨F,hK⟩;obtain⟨t8,t9⟩:=Zg F;obtain⟨r,rfl⟩:=Q9 F;have HS:=zd F;have HK:=zd ((Kx.below (ud a6) (ud H).dlt).trans hK);clear F hK)
  |(go_at_call 52;(with_reducible refine(ud ag).mono ?_);rintro e T ⟨F,hK⟩;obtain⟨t8,t9⟩:=Zg F;obtain⟨r,rfl⟩:=Q9 F;have HS:=zd F;have HK:=zd ((Kx.below (ud a6).drew (ud H).dlt).trans hK);clear F hK))
 all_goals go_wp2_with fail
 all_goals go_ret
 all_goals exact⟨ud HS,ud HK⟩
end Go.Proofs.YtndhpgciopcncaaGreatDoor
