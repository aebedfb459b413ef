import Derived.Test.YtndhpgciopcncaaGreatDoorHPst0
open Nat renaming le_refl → J
open Nat renaming lt_of_lt_of_le → E
open Go.Value renaming int → Q
open Go.IntKind renaming i32 → Y
open Option renaming some → A
open Go.RowKit renaming Below → D
open Go.RowKit.Below renaming refl → G
set_option linter.unusedVariables false
set_option maxRecDepth 20000
set_option maxHeartbeats 8000000
open Go.Proofs.Tryz
namespace Go.Proofs.YtndhpgciopcncaaGreatDoor
open Go.ChangeMaps (setBlock)
open Go.RowKit Go.Maps Go.Shelf
variable {dn:Bool} {c:Cf} {e:Ending} {i:Ids} {ep now:Int} {q:JM} {xs:List SX} {m:MS} {w w':World}
def yy(n:Nat):Array Value:=madeCells #[I 0,I 0,I 0] (n*3)
theorem Xl(n:Nat):(yy n).size=n*3:=size_madeCells _ _
theorem zdm(n:Nat)(j:n<=4)(a:World):
  (Instr.makeSlice 25 (I (n:Int)) (I (n:Int))).run prog a=.ok (.slice (A (U a.1.size 0)) n n) (a.alloc (.cells (yy n) 80)):=by
 have c:=Tryz.infoTierR;cases d:prog.info? 80 with
 |none=>simp[d]at c
 |some i=>
  simp only[d,Option.map_some,Option.some.injEq,Prod.mk.injEq]at c;obtain⟨h,g,b⟩:=c;have f:=run_make (P:=prog) a 25 80 i _ underlying25 d h .i64 .i64 (n:Int) (n:Int) (by omega) (by omega) (by rw[b];omega) (by omega);rw[f,g];have e:((n:Int)).toNat=n:=by omega
  rw[e];rfl
theorem zlW{g n:Nat}{F W K:Nat->Int}(b:w.1[g]?=A (.cells (ZC n F W K).toArray 80 (0,0))){B:Nat}(a:B<=g)(hn:n<=4):w.ownsRow B 80 3 (.slice (A (U g 0)) n n) n (ZC n F W K):=
 ⟨by rw[qI],.inr ⟨g,n,(ZC n F W K).toArray,rfl,a,b,⟨J _,by simp only[maxLen];omega,by simp[qI],by show List.take (n*3) (ZC n F W K)=_;exact List.take_of_length_le (by rw[qI];omega)⟩⟩⟩
theorem VI(c:Cf)(H:c.ok)(a:Option Addr)(cap:Nat)(w:World)(h:TS w a c.n c.F c.W c.K):
  Calls prog 30 #[(cZz c a cap)] w fun e w'=>∃g,e=.returned ((cZz c (A (U g 0)) c.n))/\w'.ownsRow w.1.size 80 3 (.slice (A (U g 0)) c.n c.n) c.n (ZC c.n c.F c.W c.K)/\D w.1.size w w':=by
 have o:=H.n4;have X:=H.n1;obtain⟨r,z,d,M⟩:=box2 w (.cells (aZz c a cap) 27) zkk;have V:=zdm c.n o;have l:D (((w.alloc (.cells (aZz c a cap) 27)).alloc zkk).1.size) ((w.alloc (.cells (aZz c a cap) 27)).alloc zkk) (((w.alloc (.cells (aZz c a cap) 27)).alloc zkk).alloc (.cells (yy c.n) 80)):=(G _ _).alloc (J _) _;have p:=(h.below d).below l;obtain⟨f,O,C,b,hZ⟩:∃f,(Builtin.copy_ #[25,25] 3 #[.slice (A (U (w.1.size+2) 0)) c.n c.n,.slice a c.n cap]).run prog (((w.alloc (.cells (aZz c a cap) 27)).alloc zkk).alloc (.cells (yy c.n) 80))=.ok (I c.n) f/\f.1[w.1.size+2]?=A (.cells (ZC c.n c.F c.W c.K).toArray 80 (0,0))/\D (w.1.size+2) (((w.alloc (.cells (aZz c a cap) 27)).alloc zkk).alloc (.cells (yy c.n) 80)) f/\f.1.size=w.1.size+3:=by
  have u:=zq ((w.alloc (.cells (aZz c a cap) 27)).alloc zkk) (.cells (yy c.n) 80);have x:=zM ((w.alloc (.cells (aZz c a cap) 27)).alloc zkk) (.cells (yy c.n) 80);rw[M]at u x;have L:=zar (P:=prog) (((w.alloc (.cells (aZz c a cap) 27)).alloc zkk).alloc (.cells (yy c.n) 80)) 25 25 3 80 3 (w.1.size+2) c.n c.n a c.n cap (yy c.n) 80 (ZC c.n c.F c.W c.K) underlying25 (by kernel_rfl) u
   (by rw[qI];simp) (zjX p) (by rw[qI,Xl];omega) (zeL _ _ _ _)
  have T:Nat.min c.n c.n=c.n:=by simp
  have R:(yy c.n).toList.drop (c.n*3)=[]:=by apply List.drop_of_length_le;rw[Array.length_toList,Xl];omega
  rw[T,qI,R,List.append_nil]at L;refine⟨_,L,setRow_heap _ _ _ _ _ _ u,below_setRow (G _ _) (J _) _,?_⟩;simp only[World.setRow];simp
 have t:=(b.block w.1.size (by omega)).trans ((l.block _ (zd r)).trans r);have q:=(b.block (w.1.size+1) (by omega)).trans ((l.block _ (zd z)).trans z);obtain⟨c0,c1,c2,c3,c4,c5,c6,-⟩:=zc t;have cf:=fun j=>zw t j;obtain⟨z0,z1,z2,z3,z4,z5,z6,-⟩:=zc q;have zf:=fun j=>zw q j;have l0:=zd t;have l1:=zd q;obtain⟨-,-,-,-,-,-,q6,-⟩:=zc r;have yl:=zd r;have B:Hid (D w.1.size w f):=d.trans ((l.mono d.size).trans (b.mono (by omega)));have HR:=ze C;have N:=ze q;have Z:=ze M;clear l p C b t q r z d h;go_enter func30,ntmps30;go_wp2_with fail;have y:=(zI (w:=f) (g:=w.1.size) (i:=6) (k:=w.1.size+1) (v:=.slice (A (U (w.1.size+2) 0)) c.n c.n) (by omega)).trans (ud N);have S:=set7 y (I c.s) (I c.le) (I c.la) (I c.wi) (I c.ke) (I c.qu) (.slice (A (U (w.1.size+2) 0)) c.n c.n);have m:zi (fun k=>k=w.1.size\/k=w.1.size+1) f ((((((((f.setCell (U w.1.size 6) (.slice (A (U (w.1.size+2) 0)) c.n c.n)).setCell (U (w.1.size+1) 0) (I c.s)).setCell (U (w.1.size+1) 1) (I c.le)).setCell (U (w.1.size+1) 2) (I c.la)).setCell (U (w.1.size+1) 3) (I c.wi)).setCell (U (w.1.size+1) 4) (I c.ke)).setCell (U (w.1.size+1) 5) (I c.qu)).setCell (U (w.1.size+1) 6) (.slice (A (U (w.1.size+2) 0)) c.n c.n)):=zg (zg (zg (zg (zg (zg (zg (zg (zi.refl _ _) (.inl rfl)) (.inr rfl)) (.inr rfl)) (.inr rfl)) (.inr rfl)) (.inr rfl)) (.inr rfl)) (.inr rfl);refine bodyPost_ret (v:=.agg #[I c.s,I c.le,I c.la,I c.wi,I c.ke,I c.qu,.slice (A (U (w.1.size+2) 0)) c.n c.n]) (results_cell_row results30 _ _ (w.1.size+1) _ _ _ _ rfl S underlying27 rfl (by kernel_rfl)) rfl ?_;exact⟨w.1.size+2,rfl,zlW (m.heap (ud HR) (by omega)) (by omega) o,(ud B).trans (m.below (ud B).size (fun k e=>by rcases e with rfl|rfl<;>omega))⟩
def jT(q:JM)(rec:ByteArray):JM:={q with S:=Qa q.S rec}
def zpY(q:JM)(rec:ByteArray):JM:={q with st:=Vu q.S rec q.st,S:=Xj q.S rec}
def Zi(w':World)(i:Ids)(c:Cf)(ep:Int)(m:MS)(q:JM)(now:Int)(xs:List SX)(e:Ending):Prop:=
 (yR q.S (xm now xs)=false/\e=.returned (I 13)/\zO w' i c ep m {jT q (xm now xs)with dn:=true})
 \/(yR q.S (xm now xs)=true/\e=.returned (I 0)/\((Vn (Qa q.S (xm now xs)) q.st=false/\zO w' i c ep (m.took now xs) (jT q (xm now xs)))\/(Vn (Qa q.S (xm now xs)) q.st=true/\∃ys:List SX,ys.Perm (yJ (m.took now xs).L (m.took now xs).Gl)/\zO w' i c ep (m.took now xs) (zpY (jT q (xm now xs)) (xm now ys)))))
theorem YE{base:Nat}{v:Value}(h:zO w i c ep m q)(x:Kx i w w')(hv:ju w base v xs):ju w' base v xs:=zh hv x.kept (fun k p e=>by
 obtain⟨u,o⟩:=zH hv p;obtain⟨fs,s⟩:=h.jrn;have r:¬Zz i k:=fun e=>by
  rcases h.otag k e with⟨l,y,n,b,f⟩|⟨es,cl,t⟩
  ·have g:=Z6 o b;rcases f with a|a|a|a<;>(rw[a]at g;exact absurd g (by decide))
  ·rw[o]at t;cases t
 have hn:¬Zt i.j i.d fs k:=fun e=>by
  obtain⟨l,y,n,b,f⟩:=s.tag k e;have g:=Z6 o b;rcases f with a|a|a<;>(rw[a]at g;exact absurd g (by decide))
 rcases e with(e|e|e|e|e)|e
 ·exact r (.inl e)
 ·exact r (.inr (.inl e))
 ·exact r (.inr (.inr e))
 ·exact hn (.inl e)
 ·exact hn (.inr (.inl e))
 ·exact hn (.inr (.inr (s.fsB▸e))))
theorem zmy(m:MS)(now:Int)(xs:List SX):(m.took now xs).L.length<=m.L.length+xs.length/\(m.took now xs).Gl.length<=m.Gl.length+xs.length:=by
 have h:=KK xs (m.Gl,m.L);exact⟨h.2,h.1⟩
theorem znk{S:DS}{N:Nat}(h:DOk S N)(rec:ByteArray):DOk (Qa S rec) (N+rec.size+3):=by
 have a:=jv h xY (rec++nl);rw[kQ]at a;unfold Qa;split
 ·exact kX a (by omega)
 ·exact kX (Ys a xY) (by omega)
theorem Xz(h:zO w i c ep m q)(now:Int)(F:xz now)(xs:List SX)(a3:∀x∈xs,okX x)(a4:∀x∈yJ (m.took now xs).L (m.took now xs).Gl,okX x)(aE:xs.length<=1000)(aC:m.L.length<=900000)(aD:m.Gl.length<=49000000)(N:Nat)(hN:N<=900000000000)(hd:DOk q.S N)(ao:0<=q.st/\q.st<=1099511627776)(base:Nat)(v:Value)(hv:ju w base v xs):
  Calls prog 52 #[(O i.x),I now,v] w fun e w'=>Zi w' i c ep m q now xs e/\Kx i w w':=by
 obtain⟨ad,cap,rfl⟩:=hv.slice;have aF:(xm now xs).size<=200000:=by
  rw[yZ];have:=kE F a3;omega
 obtain⟨X,a1⟩:∃X,w.alloc (.cells #[I now,.slice ad xs.length cap] 190)=X:=⟨_,rfl⟩;have z:D w.1.size w X:=by rw[<-a1];exact(G _ _).alloc (J _) _
 have a2:X.1[w.1.size]?=A (.cells #[I now,.slice ad xs.length cap] 190 (0,0)):=by rw[<-a1];exact zq _ _
 have r:=h.later z;have a7:ju X base (.slice ad xs.length cap) xs:=xp hv z;have a5:=fun W (hW:D X.1.size X W)=>ze (zcB now F xs a3 (by omega) _ W (a7.rd.later hW) (Za r.tab hW));have P:=a5 X (G _ _);have a0:=a5 X.drew (G _ _).drew;have n:=fun W (hW:D X.1.size X W)=>(by
  obtain⟨fs,hj⟩:=(r.later hW).jrn;exact(zoq hj (xm now xs) N (by omega) hd).mono fun e w' ⟨he,ay,h1,h2,h3⟩=>(⟨he,(r.later hW).putJrn hj ⟨ay,h1,jf h2,h3⟩⟩:e=.returned (.bool (yR q.S (xm now xs)))/\zO w' i c ep m (jT q (xm now xs))/\Kx i W w'):Calls prog 107 #[(O i.j),.string (xm now xs)] W fun e w'=>e=.returned (.bool (yR q.S (xm now xs)))/\zO w' i c ep m (jT q (xm now xs))/\Kx i W w')
 obtain⟨-,-,-,ap,-⟩:=r.cells;obtain⟨b0,b1,-⟩:=zc a2;have lx:=r.lt;have lb:=zd a2;have o:=ze r;have M:=ze a7;have aB:=ze a2;have ai:=ze a1;have H:=ze (Kx.below z h.dlt);have B:=znk hd (xm now xs);have C:∀W,D X.1.size X W->¬zt W i w.1.size:=fun W hW e=>by
  have h1:=h.foot_lt w.1.size (by
   rcases e with e|e
   ·exact .inl e
   ·right;obtain⟨fs,hj⟩:=h.jrn;have h2:fsB W i.d=fsB w i.d:=by
     unfold fsB;rw[(hW.trans (G _ _)).cell (p:=(U i.d 0)) r.dlt,z.cell (p:=(U i.d 0)) h.dlt]
    rw[<-h2];exact e)
  omega
 have f:=ze C;unfold Zi;clear h z a2 r a7 a1 hv a5 C hd;cases an:yR q.S (xm now xs)
 ·simp only[an]at n;go_enter func52,ntmps52;go_wp2_with fail;rw[ud ai];go_region_held3 (fun w'=>w'.cell? (U i.x 11)=A (O i.j)/\w'.cell? (U w.1.size 0)=A (I now)/\w'.cell? (U w.1.size 1)=A (.slice ad xs.length cap)) (go_keep) (first
   |(go_at_call 108;(first|(with_reducible refine(ud P).mono ?_)|(with_reducible refine(ud a0).mono ?_));rintro e V ⟨rfl,b⟩;have g:D X.1.size X V:=⟨b.os,b.tape,b.output,b.size,b.block⟩;have aA:=(g.cell (p:=(U i.x 11)) lx).trans ap;have v0:=(g.cell (p:=(U w.1.size 0)) lb).trans b0;have v1:=(g.cell (p:=(U w.1.size 1)) lb).trans b1;have s:=E lb g.size;have t:=ze (n V g);have u:=ze (n V.drew g.drew);unfold xm at t u;have a:=ze g;clear g b n P a0)
   |(go_at_call 107;(with_reducible refine(ud t).mono ?_);rintro e T ⟨rfl,l,k⟩;obtain⟨-,-,-,a9,aa⟩:=l.cells;have ab:=zw l.head 12;have t0:=(zL (i:=0) k.kept (ud f _ (ud a)) s).trans v0;have t1:=(zL (i:=1) k.kept (ud f _ (ud a)) s).trans v1;have lT:=E s k.size;have a8:=l.lt;have K:=ze (YE ((ud o).later (ud a)) k (xp (ud M) (ud a)));have HM:=ze l;have HK:=ze (((ud H).trans (Kx.below (ud a) (ud o).dlt)).trans k);clear l k)
   |(go_at_call 107;(with_reducible refine(ud u).mono ?_);rintro e T ⟨rfl,l,k⟩;obtain⟨-,-,-,a9,aa⟩:=l.cells;have ab:=zw l.head 12;have t0:=(zL (i:=0) k.kept (ud f _ (ud a).drew) s).trans v0;have t1:=(zL (i:=1) k.kept (ud f _ (ud a).drew) s).trans v1;have lT:=E s k.size;have a8:=l.lt;have K:=ze (YE ((ud o).later (ud a).drew) k (xp (ud M) (ud a).drew));have HM:=ze l;have HK:=ze (((ud H).trans (Kx.below (ud a).drew (ud o).dlt)).trans k);clear l k))
  all_goals go_wp2_with fail
  all_goals go_ret
  all_goals exact⟨.inl ⟨trivial,rfl,(ud HM).setDown.1⟩,(ud HK).trans (ud HM).setDown.2⟩
 ·simp only[an]at n;have az:=zmy m now xs;have ah:=fun T (hT:zO T i c ep m (jT q (xm now xs))) (hR:ju T base (.slice ad xs.length cap) xs)=>ze (zmr hT now xs (fun x hx=>(a3 x hx).key) (by omega) (by omega) base _ hR);have ae:=fun T (hT:zO T i c ep (m.took now xs) (jT q (xm now xs)))=>(by
   obtain⟨fs,hj⟩:=hT.jrn;exact ze (zlu hj (N+(xm now xs).size+3) (by omega) B ao):Hid (Calls prog 110 #[(O i.j)] T (Rz T (.bool (Vn (Qa q.S (xm now xs)) q.st)))))
  have ax:=fun T (hT:zO T i c ep (m.took now xs) (jT q (xm now xs)))=>ze (J3 hT F a4 (by omega) (by omega) (N+(xm now xs).size+3) (by omega) B);clear a3 a4 B ao az;go_enter func52,ntmps52;go_wp2_with fail;rw[ud ai];go_region_held3 (fun w'=>w'.cell? (U i.x 11)=A (O i.j)/\w'.cell? (U w.1.size 0)=A (I now)/\w'.cell? (U w.1.size 1)=A (.slice ad xs.length cap)) (go_keep) (first
   |(go_at_call 108;(first|(with_reducible refine(ud P).mono ?_)|(with_reducible refine(ud a0).mono ?_));rintro e V ⟨rfl,b⟩;have g:D X.1.size X V:=⟨b.os,b.tape,b.output,b.size,b.block⟩;have aA:=(g.cell (p:=(U i.x 11)) lx).trans ap;have v0:=(g.cell (p:=(U w.1.size 0)) lb).trans b0;have v1:=(g.cell (p:=(U w.1.size 1)) lb).trans b1;have s:=E lb g.size;have t:=ze (n V g);have u:=ze (n V.drew g.drew);unfold xm at t u;have a:=ze g;clear g b n P a0)
   |(go_at_call 107;(with_reducible refine(ud t).mono ?_);rintro e T ⟨rfl,l,k⟩;obtain⟨-,-,-,a9,aa⟩:=l.cells;have ab:=zw l.head 12;have t0:=(zL (i:=0) k.kept (ud f _ (ud a)) s).trans v0;have t1:=(zL (i:=1) k.kept (ud f _ (ud a)) s).trans v1;have lT:=E s k.size;have a8:=l.lt;have K:=ze (YE ((ud o).later (ud a)) k (xp (ud M) (ud a)));have HM:=ze l;have HK:=ze (((ud H).trans (Kx.below (ud a) (ud o).dlt)).trans k);clear l k)
   |(go_at_call 107;(with_reducible refine(ud u).mono ?_);rintro e T ⟨rfl,l,k⟩;obtain⟨-,-,-,a9,aa⟩:=l.cells;have ab:=zw l.head 12;have t0:=(zL (i:=0) k.kept (ud f _ (ud a).drew) s).trans v0;have t1:=(zL (i:=1) k.kept (ud f _ (ud a).drew) s).trans v1;have lT:=E s k.size;have a8:=l.lt;have K:=ze (YE ((ud o).later (ud a).drew) k (xp (ud M) (ud a).drew));have HM:=ze l;have HK:=ze (((ud H).trans (Kx.below (ud a).drew (ud o).dlt)).trans k);clear l k))
  all_goals go_wp2_with fail
  all_goals(
   refine(ud (ah T (ud HM) (ud K))).mono ?_
   rintro e U9 ⟨rfl,y,ak⟩
   obtain⟨-,-,-,aG,-⟩:=y.cells
   have lu:=y.lt
   have au:=ae U9 y
   have af:=ze y
   have ar:=ze ((ud HK).trans ak)
   clear y ak ah ae
   go_wp2_with fail
   refine(ud au).mono ?_
   rintro e Z ⟨rfl,a6⟩
   have ag:=ze ((ud af).later a6)
   have ac:=ze ((ud ar).trans (Kx.below a6 (ud af).dlt))
   clear a6
   cases am:Vn (Qa q.S (xm now xs)) q.st
   ·go_wp2_with fail
    go_ret
    exact⟨.inr ⟨trivial,rfl,.inl ⟨am,ud ag⟩⟩,ud ac⟩
   ·go_wp2_with fail
    refine(ud (ax Z (ud ag))).mono ?_
    rintro e R ⟨ys,hp,rfl,al,aj⟩
    have aw:=ze hp
    have av:=ze al
    have aq:=ze ((ud ac).trans aj)
    clear hp al aj
    go_wp2_with fail
    go_ret
    exact⟨.inr ⟨trivial,rfl,.inr ⟨am,ys,ud aw,ud av⟩⟩,ud aq⟩)
theorem Kl(n:Int)(w:World)(h:0<=n/\n<4):Calls prog 60 #[I n] w fun e w'=>e=.returned (.bool true)/\w'=w:=by
 obtain⟨a,b⟩:=h;go_enter func60,ntmps60;go_wp2_with fail;go_ret;exact⟨rfl,rfl⟩
theorem zfV(h:xK dn w i c ep m)(y:c.ok)(sr tm val:Int)(l:0<=sr/\sr<4)(s:0<=tm/\tm<=m.now)(ab:m.now-c.la<=tm)(a2:m.now<=100000)(a3: -2147483648<=val/\val<=2147483647)(hu:0<=zV m.L/\zV m.L<=1000)(V:zpv m.L)(T:∀k:Nat,k<c.n->zE m.Gl (qO c sr tm k)=none)(a8:c.qu<zV m.L+(1+2*yn c m.L ⟨sr,tm,val⟩ c.n)):
  Calls prog 27 #[(O i.x),I sr,I tm,Q Y val] w (Rz w (I 4)):=by
 obtain⟨a,cap,a1,a0⟩:=h.ts;obtain⟨c0,c1,c2,c3,c4,c5,K,c7,c8,c9,-⟩:=h.cells;rw[a1]at K;have f:=h.lt;obtain⟨ae,af⟩:=y.qu;obtain⟨a9,aa⟩:=y.la;have ac:=vV c m.L ⟨sr,tm,val⟩ c.n;have ad:=y.n4;have HU:=fun W S=>ze (Qc ((h.later (w':=W) S).set) (by unfold xz;omega));have z:=fun W S=>ze (zbK ((h.later (w':=W) S).set) y sr tm val l ⟨s.1,by omega⟩ V T);have HQ:=fun W=>ze (QB c a cap W);have C:=fun W=>ze (JT c a cap W);have B:=fun W=>ze (Kl sr W l);obtain⟨ag,ah⟩:=hu;have a5:decide (tm<0)=false:=by simp;omega
 have a6:decide (m.now<tm)=false:=by simp;omega
 have a7:decide (tm<m.now-c.la)=false:=by simp;omega
 have H:=ze h;generalize R:zV m.L=U9 at*;generalize P:yn c m.L ⟨sr,tm,val⟩ c.n=M at*;obtain⟨X,Z⟩:=s;have s:0<=tm/\tm<=m.now:=⟨X,Z⟩;clear h a0 R P;go_enter func27,ntmps27;go_wp2_with(first|(go_at_call 60;refine(ud (B _)).mono ?_;rintro e W9 ⟨rfl,h9⟩;have N:=h9.symm;subst N));have v:Nonempty (xg w.1.size w):=xg.some _ _;have t:=fun(u:xg w.1.size w) b o h=>u.cell b o h;refine zy w.1.size (by kernel_rfl) (by kernel_rfl) ?_;repeat(go_big_quiet_step (first
  |(go_at_call 61;exact Calls.later (J _) (ud (C _)))))
 refine wpQuiet_nil ?_;rintro⟨w1,d⟩;dsimp only;clear t v;go_wp2_with fail;have d0:=(d.cell (p:=(U i.x 0)) f).trans c0;have d1:=(d.cell (p:=(U i.x 1)) f).trans c1;have d2:=(d.cell (p:=(U i.x 2)) f).trans c2;have d3:=(d.cell (p:=(U i.x 3)) f).trans c3;have d4:=(d.cell (p:=(U i.x 4)) f).trans c4;have d5:=(d.cell (p:=(U i.x 5)) f).trans c5;have d6:=(d.cell (p:=(U i.x 6)) f).trans K;have d7:=(d.cell (p:=(U i.x 7)) f).trans c7;have d8:=(d.cell (p:=(U i.x 8)) f).trans c8;have d9:=(d.cell (p:=(U i.x 9)) f).trans c9;have a4:=E f d.size;have g:=ze d;clear c0 c1 c2 c3 c4 c5 K c7 c8 c9 d;have r:Nonempty (xg w1.1.size w1):=xg.some _ _;have q:=fun(u:xg w1.1.size w1) b o h=>u.cell b o h;refine zy w1.1.size (by kernel_rfl) (by kernel_rfl) ?_;repeat(go_big_quiet_step (first
  |(go_at_call 43;exact Calls.later (J _) (ud (HU _ ((ud g).trans (Below.mono (Subtype.property _) (ud g).size)))))
  |(go_at_call 62;exact Calls.later (J _) (ud (z _ ((ud g).trans (Below.mono (Subtype.property _) (ud g).size)))))
  |(go_at_call 63;exact Calls.later (J _) (ud (HQ _)))))
 refine wpQuiet_nil ?_;rintro⟨w2,j⟩;dsimp only;clear q r;have F:=ze ((ud g).trans (j.mono (ud g).size));clear j d0 d1 d2 d3 d4 d5 d6 d7 d8 d9;go_wp2_with fail;go_ret;exact⟨rfl,ud F⟩
theorem KU(h:Zi w' i c ep m q now xs e):∃r:Int,e=.returned (I r):=by
 rcases h with⟨_,h,_⟩|⟨_,h,_⟩<;>exact⟨_,h⟩
theorem zck(h:Zi w' i c ep m q now xs e):∃m' q',zO w' i c ep m' q'/\(m'=m\/m'=m.took now xs):=by
 rcases h with⟨_,_,h⟩|⟨_,_,⟨_,h⟩|⟨_,ys,_,h⟩⟩
 ·exact⟨_,_,h,.inl rfl⟩
 ·exact⟨_,_,h,.inr rfl⟩
 ·exact⟨_,_,h,.inr rfl⟩
theorem Qf(h:Zi w' i c ep m q m.now xs e):w'.cell? (U i.x 8)=A (I m.now)/\w'.cell? (U i.x 9)=A (O i.s):=by
 obtain⟨m',q',d,f⟩:=zck h;obtain⟨a,b,-⟩:=d.cells;refine⟨?_,b⟩;rw[a];rcases f with rfl|rfl<;>rfl
theorem zpS(h:zO w i c ep m q)(hc:c.ok)(sr tm val:Int)(z:0<=sr/\sr<4)(K:0<=tm/\tm<=m.now)(aF:m.now-c.la<=tm)(av:m.now<=100000)(ad: -2147483648<=val/\val<=2147483647)(hu:0<=zV m.L/\zV m.L<=1000)(ao:zpv m.L)(am:∀k:Nat,k<c.n->zE m.Gl (qO c sr tm k)=none)(aC:zV m.L+(1+2*yn c m.L ⟨sr,tm,val⟩ c.n)<=c.qu)(ac:∀p∈m.L,p.1.t= -1->p.2.cl.small)(ab:∀x∈qX c m.Gl m.L ⟨sr,tm,val⟩,okX x)(R:∀x∈yJ (m.took m.now (qX c m.Gl m.L ⟨sr,tm,val⟩)).L (m.took m.now (qX c m.Gl m.L ⟨sr,tm,val⟩)).Gl,okX x)(al:(qX c m.Gl m.L ⟨sr,tm,val⟩).length<=1000)(ak:m.L.length<=900000)(aj:m.Gl.length<=49000000)(N:Nat)(hN:N<=900000000000)(hd:DOk q.S N)(an:0<=q.st/\q.st<=1099511627776):
  Calls prog 27 #[(O i.x),I sr,I tm,Q Y val] w fun e w'=>Zi w' i c ep m q m.now (qX c m.Gl m.L ⟨sr,tm,val⟩) e/\Kx i w w':=by
 obtain⟨a,cap,au,ar⟩:=h.own.ts;obtain⟨c0,c1,c2,c3,c4,c5,c6,c7,c8,c9,-⟩:=h.own.cells;rw[au]at c6;have f:=h.lt;obtain⟨aI,aJ⟩:=hc.qu;obtain⟨aD,aE⟩:=hc.la;have aG:=vV c m.L ⟨sr,tm,val⟩ c.n;have aH:=hc.n4;have HU:=fun W hW=>ze (Qc ((h.later (w':=W) hW).set) (by unfold xz;omega));have a6:=fun W hW=>ze (zbK ((h.later (w':=W) hW).set) hc sr tm val z ⟨K.1,by omega⟩ ao am);have HQ:=fun W=>ze (QB c a cap W);have a8:=fun W=>ze (JT c a cap W);have a7:=fun W=>ze (Kl sr W z);obtain⟨aK,aL⟩:=hu;have ay:decide (tm<0)=false:=by simp;omega
 have az:decide (m.now<tm)=false:=by simp;omega
 have aA:decide (tm<m.now-c.la)=false:=by simp;omega
 have H:=ze h;have X:=fun W hW=>ze (zgb ((h.later (w':=W) hW).set) hc sr tm val z ⟨K.1,by omega⟩ ad ac);generalize aB:qX c m.Gl m.L ⟨sr,tm,val⟩=xs at*;have Z:=fun W (hW:D w.1.size w W) base v hv=>ze (Xz (h.later hW) m.now (by unfold xz;omega) xs ab R al ak aj N hN hd an base v hv);clear ab R ac hd;generalize ai:zV m.L=U9 at*;generalize ah:yn c m.L ⟨sr,tm,val⟩ c.n=M at*;obtain⟨ap,aq⟩:=K;have K:0<=tm/\tm<=m.now:=⟨ap,aq⟩;clear h ar ai ah;go_enter func27,ntmps27;go_wp2_with(first|(go_at_call 60;refine(ud (a7 _)).mono ?_;rintro e W9 ⟨rfl,h9⟩;have ag:=h9.symm;subst ag));have aa:Nonempty (xg w.1.size w):=xg.some _ _;have a9:=fun(u:xg w.1.size w) b o h=>u.cell b o h;refine zy w.1.size (by kernel_rfl) (by kernel_rfl) ?_;repeat(go_big_quiet_step (first
  |(go_at_call 61;exact Calls.later (J _) (ud (a8 _)))))
 refine wpQuiet_nil ?_;rintro⟨w1,d⟩;dsimp only;clear a9 aa;go_wp2_with fail;have d0:=(d.cell (p:=(U i.x 0)) f).trans c0;have d1:=(d.cell (p:=(U i.x 1)) f).trans c1;have d2:=(d.cell (p:=(U i.x 2)) f).trans c2;have d3:=(d.cell (p:=(U i.x 3)) f).trans c3;have d4:=(d.cell (p:=(U i.x 4)) f).trans c4;have d5:=(d.cell (p:=(U i.x 5)) f).trans c5;have d6:=(d.cell (p:=(U i.x 6)) f).trans c6;have d7:=(d.cell (p:=(U i.x 7)) f).trans c7;have d8:=(d.cell (p:=(U i.x 8)) f).trans c8;have d9:=(d.cell (p:=(U i.x 9)) f).trans c9;have aw:=E f d.size;have g:=ze d;clear c0 c1 c2 c3 c4 c5 c6 c7 c8 c9 d;have a1:Nonempty (xg w1.1.size w1):=xg.some _ _;have a0:=fun(u:xg w1.1.size w1) b o h=>u.cell b o h;refine zy w1.1.size (by kernel_rfl) (by kernel_rfl) ?_;repeat(go_big_quiet_step (first
  |(go_at_call 43;exact Calls.later (J _) (ud (HU _ ((ud g).trans (Below.mono (Subtype.property _) (ud g).size)))))
  |(go_at_call 62;exact Calls.later (J _) (ud (a6 _ ((ud g).trans (Below.mono (Subtype.property _) (ud g).size)))))
  |(go_at_call 63;exact Calls.later (J _) (ud (HQ _)))))
 refine wpQuiet_nil ?_;rintro⟨w2,P⟩;dsimp only;clear a0 a1;have l:=ze ((ud g).trans (P.mono (ud g).size));clear P d0 d1 d2 d3 d4 d5 d6 d7 d8 d9;have B:=(ud H).later (ud l);obtain⟨-,-,-,-,-,-,-,-,e8,e9,-⟩:=B.own.cells;have a2:=B.lt;have a3:=X w2 (ud l);have a4:=X w2.drew (ud l).drew;have ax:=ze B;clear B X a6 HU HQ a8 a7;go_wp2_with fail;go_region_held3 (fun w'=>w'.cell? (U i.x 8)=A (I m.now)/\w'.cell? (U i.x 9)=A (O i.s)) (go_keep) (first
  |(go_at_call 64;(first|(with_reducible refine(ud a3).mono ?_)|(with_reducible refine(ud a4).mono ?_));rintro e V ⟨v,rfl,y,j⟩;have hv:D w2.1.size w2 V:=⟨j.os,j.tape,j.output,j.size,j.block⟩;clear j;have v8:=(hv.cell (p:=(U i.x 8)) a2).trans e8;have v9:=(hv.cell (p:=(U i.x 9)) a2).trans e9;have aM:=E a2 hv.size;have F:=(ud l).trans (hv.mono (ud l).size);have ae:=Z V F _ v y;have af:=Z V.drew F.drew _ v (xp y (G _ _).drew);have a5:=ze F;clear hv F y Z a3 a4)
  |(go_at_call 52;(with_reducible refine(ud ae).mono ?_);rintro e T ⟨C,hK⟩;obtain⟨t8,t9⟩:=Qf C;obtain⟨r,rfl⟩:=KU C;have HS:=ze C;have HK:=ze ((Kx.below (ud a5) (ud H).dlt).trans hK);clear C hK)
  |(go_at_call 52;(with_reducible refine(ud af).mono ?_);rintro e T ⟨C,hK⟩;obtain⟨t8,t9⟩:=Qf C;obtain⟨r,rfl⟩:=KU C;have HS:=ze C;have HK:=ze ((Kx.below (ud a5).drew (ud H).dlt).trans hK);clear C hK))
 all_goals go_wp2_with fail
 all_goals go_ret
 all_goals exact⟨ud HS,ud HK⟩
def vZ(v:SV):Cl×Int:=if v.st=0 then(qA,10)else if v.st=2 then(qA,11)else if v.st=4 then(qA,12)else(v.cl,0)
def qY(c:Cf)(now:Int)(Gl:List (Sg×Unit))(L:LV)(t sr wn:Int):Cl×Int:=
 if now-c.la<(wn+1)*c.wh t then(qA,9)else vZ (stG Gl L ⟨t,sr,wn⟩)
theorem Kw(h:xK dn w i c ep m)(hc:c.ok)(S:0<=m.now/\m.now<=100000)(t sr wn:Int)(ht: -1<=t/\t<c.n)(T:0<=sr/\sr<4)(Z:0<=wn/\wn<=100000):
  Calls prog 57 #[(O i.x),I t,I sr,I wn] w (Rz w (.tuple #[.agg #[I (qY c m.now m.Gl m.L t sr wn).1.cnt,I (qY c m.now m.Gl m.L t sr wn).1.sum,Q Y (qY c m.now m.Gl m.L t sr wn).1.mn,Q Y (qY c m.now m.Gl m.L t sr wn).1.mx],I (qY c m.now m.Gl m.L t sr wn).2])):=by
 obtain⟨a,cap,a4,V⟩:=h.ts;have a8:=h.lt;have z:D w.1.size w (w.alloc Qn):=(G _ _).alloc (J _) _;obtain⟨c0,c1,c2,c3,c4,c5,c6,-,c8,c9,-⟩:=(h.later z).cells;rw[a4]at c6;have s:=ze z;have d:=ze (zq w Qn);have b:w.1.size<(w.alloc Qn).1.size:=by rw[zM];omega
 have r:i.x<(w.alloc Qn).1.size:=by rw[zM];omega
 have HH:=ze (zlr c hc a cap t (w.alloc Qn));have a6:=hc.n4;rw[show inB t (-1) ((c.n:Int)-1)=true from by rw[jk];omega]at HH
 have HS:=fun W=>ze (Kl sr W T);have a9:decide (wn<0)=false:=by simp;omega
 have aa:decide (100000<wn)=false:=by simp;omega
 have HC:=fun(W:World) (hb:D (w.alloc Qn).1.size (w.alloc Qn) W)=>ze (Ks c hc a cap t wn m.now ht.1 ht.2 Z S W.drew (V.below (z.trans (hb.mono z.size)).drew));have X:(⟨t,sr,wn⟩:Sg).wf:=by refine⟨?_,?_,?_⟩<;>unfold xz<;>simp only<;>omega
 have P:=fun(W:World) (hb:D (w.alloc Qn).1.size (w.alloc Qn) W)=>ze (zbL ((h.later z).later hb).set ⟨t,sr,wn⟩ X);have K9:=c9;clear z h V X;by_cases p5:m.now-c.la<(wn+1)*c.wh t;case' pos=>
  rw[show qY c m.now m.Gl m.L t sr wn=(qA,9)from by unfold qY;rw[if_pos p5]]
  rw[show decide ((wn+1)*c.wh t<=m.now-c.la)=false from by simp;omega]at HC
  clear p5
 case' neg=>
  rw[show qY c m.now m.Gl m.L t sr wn=vZ (stG m.Gl m.L ⟨t,sr,wn⟩)from by unfold qY;rw[if_neg p5]]
  rw[show decide ((wn+1)*c.wh t<=m.now-c.la)=true from by simp;omega]at HC
  unfold clV at P;dsimp only at P;generalize stG m.Gl m.L ⟨t,sr,wn⟩=v at*;clear p5;by_cases C:v.st=0;case' pos=>
   rw[show vZ v=(qA,10)from by unfold vZ;rw[if_pos C]]
   have q6:(v.st==0)=true:=(by simp[C]);clear C
  case' neg=>
   have q6:(v.st==0)=false:=(by simp[C]);by_cases M:v.st=2;case' pos=>
    rw[show vZ v=(qA,11)from by unfold vZ;rw[if_neg C,if_pos M]]
    have q7:(v.st==2)=true:=(by simp[M]);clear C M
   case' neg=>
    have q7:(v.st==2)=false:=(by simp[M]);by_cases N:v.st=4;case' pos=>
     rw[show vZ v=(qA,12)from by unfold vZ;rw[if_neg C,if_neg M,if_pos N]]
     have q8:(v.st==4)=true:=(by simp[N]);clear C M N
    case' neg=>
     have q8:(v.st==4)=false:=(by simp[N]);rw[show vZ v=(v.cl,0)from by unfold vZ;rw[if_neg C,if_neg M,if_neg N]]
     clear C M N
 all_goals
  go_enter func57,ntmps57
  go_wp2_with(first|(go_at_call 116;refine(ud HH).mono ?_;rintro e w1 ⟨rfl,f⟩;have m0:=(f.cell (p:=(U i.x 0)) r).trans c0;have m1:=(f.cell (p:=(U i.x 1)) r).trans c1;have m2:=(f.cell (p:=(U i.x 2)) r).trans c2;have m3:=(f.cell (p:=(U i.x 3)) r).trans c3;have m4:=(f.cell (p:=(U i.x 4)) r).trans c4;have m5:=(f.cell (p:=(U i.x 5)) r).trans c5;have m6:=(f.cell (p:=(U i.x 6)) r).trans c6;have m8:=(f.cell (p:=(U i.x 8)) r).trans c8;have m9:=(f.cell (p:=(U i.x 9)) r).trans c9;obtain⟨y0,y1,y2,y3,-⟩:=zc (((f.block w.1.size b).trans (ud d)));have yf:=fun j=>zw ((f.block w.1.size b).trans (ud d)) j;have F:=ze f)|(go_at_call 60;refine(ud (HS _)).mono ?_;rintro e W9 ⟨rfl,h9⟩;have a2:=h9.symm;subst a2))
  have a0:=HC w1 (ud F)
  have a5:=E r (ud F).size
  clear y0 y1 y2 y3 yf f c0 c1 c2 c3 c4 c5 c6 c8 c9 HC HS HH
  refine qH 10 (by kernel_rfl) (by kernel_rfl) ?_
  simp only[List.take_succ_cons,List.take_zero,List.drop_succ_cons,List.drop_zero]
  repeat still_step
  refine wpStill_nil ?_
  go_wp2_with(first|(go_at_call 117;refine(ud a0).mono ?_;rintro e w3 ⟨rfl,a3⟩;have y:D _ _ w3:=(ud F).trans ((zqI a3).mono (ud F).size);have n9:=(y.cell (p:=(U i.x 9)) r).trans K9;obtain⟨y0,y1,y2,y3,-⟩:=zc (((y.block w.1.size b).trans (ud d)));have yf:=fun j=>zw ((y.block w.1.size b).trans (ud d)) j;have u:=ze y))
 rotate_right
 ·clear P;have H:=((ud u).block w.1.size b).trans (ud d);have K:=KT H (I 0) (I 0) (Q Y 0) (Q Y 0);refine bodyPost_ret (v:=.tuple #[.agg #[I 0,I 0,Q Y 0,Q Y 0],I 9]) (xa results57 _ _ w.1.size _ _ _ _ _ rfl rfl K underlying115 rfl (by kernel_rfl)) rfl ?_;exact⟨rfl,(ud s).trans (((ud u).mono (ud s).size).trans (below4 (J _) _ _ _ _))⟩
 all_goals
  have a1:=P w3 (ud u)
  clear P y0 y1 y2 y3 yf
  refine(ud a1).mono ?_
  rintro e w4 ⟨rfl,R⟩
  have l:=(ud u).trans (R.mono (ud u).size)
  obtain⟨y0,-⟩:=zc (((l.block w.1.size b).trans (ud d)))
  obtain⟨-,y1,-⟩:=zc (((l.block w.1.size b).trans (ud d)))
  obtain⟨-,-,y2,-⟩:=zc (((l.block w.1.size b).trans (ud d)))
  obtain⟨-,-,-,y3,-⟩:=zc (((l.block w.1.size b).trans (ud d)))
  have yf:=fun j=>zw ((l.block w.1.size b).trans (ud d)) j
  have a7:w.1.size<w4.1.size:=E b l.size
  have k:=ze l
  clear R l
  go_wp2_with fail
 ·skip
  have H:=((ud k).block w.1.size b).trans (ud d);have q:=KT H (I v.cl.cnt) (I v.cl.sum) (Q Y v.cl.mn) (Q Y v.cl.mx);have K:=(Below.heap_alloc _ (.cells #[I v.cl.cnt,I v.cl.sum,Q Y v.cl.mn,Q Y v.cl.mx] 115) _ (zd q)).trans q;have o:=(ud s).trans (((ud k).mono (ud s).size).trans (below4 (w:=w4) (g:=w.1.size) (B:=w.1.size) (J _) (I v.cl.cnt) (I v.cl.sum) (Q Y v.cl.mn) (Q Y v.cl.mx)));refine bodyPost_ret (v:=.tuple #[.agg #[I v.cl.cnt,I v.cl.sum,Q Y v.cl.mn,Q Y v.cl.mx],I 0]) (xa results57 _ _ w.1.size _ _ _ _ _ rfl rfl K underlying115 rfl (by kernel_rfl)) rfl ?_;exact⟨rfl,o.alloc o.size _⟩
 ·skip
  have H:=((ud k).block w.1.size b).trans (ud d);have q:=KT H (I 0) (I 0) (Q Y 0) (Q Y 0);have K:=(Below.heap_alloc _ (.cells #[I v.cl.cnt,I v.cl.sum,Q Y v.cl.mn,Q Y v.cl.mx] 115) _ (zd q)).trans q;have o:=(ud s).trans (((ud k).mono (ud s).size).trans (below4 (w:=w4) (g:=w.1.size) (B:=w.1.size) (J _) (I 0) (I 0) (Q Y 0) (Q Y 0)));refine bodyPost_ret (v:=.tuple #[.agg #[I 0,I 0,Q Y 0,Q Y 0],I 12]) (xa results57 _ _ w.1.size _ _ _ _ _ rfl rfl K underlying115 rfl (by kernel_rfl)) rfl ?_;exact⟨rfl,o.alloc o.size _⟩
 ·skip
  have H:=((ud k).block w.1.size b).trans (ud d);have q:=KT H (I 0) (I 0) (Q Y 0) (Q Y 0);have K:=(Below.heap_alloc _ (.cells #[I v.cl.cnt,I v.cl.sum,Q Y v.cl.mn,Q Y v.cl.mx] 115) _ (zd q)).trans q;have o:=(ud s).trans (((ud k).mono (ud s).size).trans (below4 (w:=w4) (g:=w.1.size) (B:=w.1.size) (J _) (I 0) (I 0) (Q Y 0) (Q Y 0)));refine bodyPost_ret (v:=.tuple #[.agg #[I 0,I 0,Q Y 0,Q Y 0],I 11]) (xa results57 _ _ w.1.size _ _ _ _ _ rfl rfl K underlying115 rfl (by kernel_rfl)) rfl ?_;exact⟨rfl,o.alloc o.size _⟩
 ·skip
  have H:=((ud k).block w.1.size b).trans (ud d);have q:=KT H (I 0) (I 0) (Q Y 0) (Q Y 0);have K:=(Below.heap_alloc _ (.cells #[I v.cl.cnt,I v.cl.sum,Q Y v.cl.mn,Q Y v.cl.mx] 115) _ (zd q)).trans q;have o:=(ud s).trans (((ud k).mono (ud s).size).trans (below4 (w:=w4) (g:=w.1.size) (B:=w.1.size) (J _) (I 0) (I 0) (Q Y 0) (Q Y 0)));refine bodyPost_ret (v:=.tuple #[.agg #[I 0,I 0,Q Y 0,Q Y 0],I 10]) (xa results57 _ _ w.1.size _ _ _ _ _ rfl rfl K underlying115 rfl (by kernel_rfl)) rfl ?_;exact⟨rfl,o.alloc o.size _⟩
end Go.Proofs.YtndhpgciopcncaaGreatDoor
