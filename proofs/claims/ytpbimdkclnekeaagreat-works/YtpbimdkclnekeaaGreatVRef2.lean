import Derived.Test.YtpbimdkclnekeaaGreatVOpen
import Derived.Test.YtpbimdkclnekeaaGreatVConf2
open Go.Value renaming int → I
open Go.IntKind renaming i64 → J
open Option renaming none → O
open Option renaming some → E
open Go.RowKit.Below renaming refl → Q
open Nat renaming le_refl → U
open Go renaming World → Y
open Go.RowKit renaming Below → Z
open Go renaming Value → X
open Go.IntKind (i32)
set_option linter.unusedVariables false
set_option maxRecDepth 8000
set_option maxHeartbeats 1000000
open Go.Proofs.Tryz
namespace Go.Proofs.YtpbimdkclnekeaaGreat
open Go.RowKit
structure zJ(B:Nat)(w:Y)(p:Nat)(m:RM)(tv nv pv gv kv:X):Prop where
 head:w.1[p]?=E (.cells #[I J m.c.s,I J m.c.le,I J m.c.la,I J m.c.wi,I J m.c.ke,I J m.c.qu,tv,I J m.now,nv,pv,gv,kv,I J m.epoch,I J m.picks] 190 (0,0))
 base:B<=p
 trow:w.ownsRow B 66 3 tv m.c.n (Xk m.c.n m.c.F m.c.W m.c.K)
 nrow:w.ownsRow B 269 3 nv m.nu.length (m.nu.flatMap nmV)
 prow:w.ownsRow B 232 3 pv m.pub.length (m.pub.flatMap sgV)
 grow:w.ownsRow B 232 3 gv m.gone.length (m.gone.flatMap sgV)
 krow:w.ownsRow B 239 11 kv m.tg.length (m.tg.flatMap tkV)
section
variable {B:Nat} {w:Y} {p:Nat} {m:RM} {tv nv pv gv kv:X}
def vP(p:Nat)(tv nv pv gv kv:X)(k:Nat):Prop:=k=p\/tv.ownBlock=E k\/nv.ownBlock=E k\/pv.ownBlock=E k\/gv.ownBlock=E k\/kv.ownBlock=E k
theorem zJ.kept{f:Nat->Prop}{w':Y}(h:zJ B w p m tv nv pv gv kv)(b:zk f w w')(hn:∀k,vP p tv nv pv gv kv k->¬f k):zJ B w' p m tv nv pv gv kv:=
 ⟨b.heap h.head (hn p (.inl rfl)),h.base,zi h.trow b (fun k a=>hn k (.inr (.inl a))),zi h.nrow b (fun k a=>hn k (.inr (.inr (.inl a)))),zi h.prow b (fun k a=>hn k (.inr (.inr (.inr (.inl a))))),zi h.grow b (fun k a=>hn k (.inr (.inr (.inr (.inr (.inl a)))))),zi h.krow b (fun k a=>hn k (.inr (.inr (.inr (.inr (.inr a))))))⟩
theorem zJ.later{w':Y}(h:zJ B w p m tv nv pv gv kv)(a:Z w.1.size w w'):zJ B w' p m tv nv pv gv kv:=
 h.kept (f:=fun _=>False) (zk.of_below a) (fun _ _ b=>b)
theorem zJ.lt(h:zJ B w p m tv nv pv gv kv):p<w.1.size:=zd h.head
theorem zJ.conf(h:zJ B w p m tv nv pv gv kv):w.cell? ⟨p,0,O⟩=E (I J m.c.s)/\w.cell? ⟨p,1,O⟩=E (I J m.c.le)/\w.cell? ⟨p,2,O⟩=E (I J m.c.la)/\w.cell? ⟨p,3,O⟩=E (I J m.c.wi)/\w.cell? ⟨p,4,O⟩=E (I J m.c.ke)/\w.cell? ⟨p,5,O⟩=E (I J m.c.qu)/\w.cell? ⟨p,6,O⟩=E tv:=by
 refine⟨?_,?_,?_,?_,?_,?_,?_⟩<;>rw[zN h.head]<;>rfl
theorem zJ.rest(h:zJ B w p m tv nv pv gv kv):w.cell? ⟨p,7,O⟩=E (I J m.now)/\w.cell? ⟨p,8,O⟩=E nv/\w.cell? ⟨p,9,O⟩=E pv/\w.cell? ⟨p,10,O⟩=E gv/\w.cell? ⟨p,11,O⟩=E kv/\w.cell? ⟨p,12,O⟩=E (I J m.epoch)/\w.cell? ⟨p,13,O⟩=E (I J m.picks):=by
 refine⟨?_,?_,?_,?_,?_,?_,?_⟩<;>rw[zN h.head]<;>rfl
end
theorem TS.of_owns{w:Y}{B:Nat}{e:TypeId}{a:Option Addr}{n cap:Nat}{F W K:Nat->Int}(h:w.ownsRow B e 3 (.slice a n cap) n (Xk n F W K)):TS w a n F W K:=fun k=>by
 obtain⟨g,d,hv,l,c⟩:=h.form k
 cases hv
 refine⟨g,0,rfl,c,fun i m=>?_⟩
 have e:∀j,j<n*3->w.cell? ⟨g,j,O⟩=E (ZV F W K j):=fun j f=>by
  rw[h.cellAt _ f,QD n F W K j f]
 refine⟨?_,?_,?_⟩
 ·rw[e _ (by omega)];simp[ZV]
 ·have b:(i*3+1)/3=i:=by omega
  rw[e _ (by omega)];simp[ZV,Nat.add_mod,b]
 ·have b:(i*3+2)/3=i:=by omega
  rw[e _ (by omega)];simp[ZV,Nat.add_mod,b]
theorem box2(w:Y)(a b:Obj):((w.alloc a).alloc b).1[w.1.size]?=E a/\((w.alloc a).alloc b).1[w.1.size+1]?=E b/\Z w.1.size w ((w.alloc a).alloc b)/\((w.alloc a).alloc b).1.size=w.1.size+2:=by
 refine⟨(Below.heap_alloc _ _ _ (by simp)).trans (zo _ _),by have:=zo (w.alloc a) b;rw[zF]at this;exact this,((Q _ _).alloc (U _) _).alloc (by simp) _,by simp⟩
theorem xm{w:Y}{g i:Nat}{cs:Array X}{t:TypeId}{a:Nat×Nat}(h:w.1[g]?=E (.cells cs t a))(v:X):(w.setCell ⟨g,i,O⟩ v).1[g]?=E (.cells (cs.setIfInBounds i v) t a):=by
 rw[setCell_eq_setRow w g i cs t a v h]
 exact setRow_heap w g _ _ t _ h
theorem set3{w:Y}{g:Nat}{a b c:X}{t:TypeId}{d:Nat×Nat}(h:w.1[g]?=E (.cells #[a,b,c] t d))(x y z:X):((((w.setCell ⟨g,0,O⟩ x).setCell ⟨g,1,O⟩ y).setCell ⟨g,2,O⟩ z).drew).1[g]?=E (.cells #[x,y,z] t d):=by
 have:=xm (i:=2) (xm (i:=1) (xm (i:=0) h x) y) z
 exact this
theorem zla{a b c a' d e:Int}(f:a=a')(g:b=d)(h:c=e):Ending.returned (.agg #[I J a,I J b,I J c])=.returned (.agg #[I J a',I J d,I J e]):=by rw[f,g,h]
theorem ZH{B:Nat}{w:Y}{p:Nat}{m:RM}{tv nv pv gv kv:X}(h:zJ B w p m tv nv pv gv kv)(D:m.c.ok)(t:Int)(f: -1<=t)(g:t<m.c.n)(x:Nm)(T:x.ok):
  Calls prog 198 #[.pointer (E ⟨p,0,O⟩),I J t,.agg #[I J x.se,I J x.tm,I i32 x.val]] w fun e w'=>e=.returned (.agg #[I J (zI m.c t x).t,I J (zI m.c t x).se,I J (zI m.c t x).we])/\Z w.1.size w w':=by
 obtain⟨a,cap,s⟩:=zq h.trow
 subst s
 have hp:=h.lt
 have r:=TS.of_owns h.trow
 obtain⟨c0,c1,c2,c3,c4,c5,c6⟩:=h.conf
 obtain⟨R,S⟩:=D.wh f g
 have q:=D.n4
 obtain⟨V,a0,a1,a2,a3,a4⟩:=T
 have N:Hid (xd m.c.wi m.c.W t=m.c.wh t):=rfl
 have HR:Hid ((zI m.c t x).we=x.tm/m.c.wh t):=rfl
 have k:Hid ((zI m.c t x).t=t):=rfl
 have l:Hid ((zI m.c t x).se=x.se):=rfl
 obtain⟨y,z,d,A⟩:=box2 w (.cells #[I J x.se,I J x.tm,I i32 x.val] 269) (.cells #[I J 0,I J 0,I J 0] 232)
 have H:=ze y
 have L:=ze z
 have u:=ze A
 clear h y z A
 go_enter func198,ntmps198
 go_wp2_with(go_at_call 101;refine(vH _ _ _ _ _ _ _ _ cap m.c.F m.c.W m.c.K t f g q _ (r.below d)).mono ?_;rintro e G ⟨rfl,b⟩;rw[ud N])
 have C:=(b.block w.1.size (by rw[ud u];omega)).trans (ud H)
 have i:=(b.block (w.1.size+1) (by rw[ud u];omega)).trans (ud L)
 obtain⟨z0,z1,-⟩:=zc C
 obtain⟨y0,y1,y2,-⟩:=zc i
 have y3:=fun j=>zD i j
 have M:=ze i
 clear C i
 go_region
 go_wp2_with fail
 have P:=set3 (ud M) (I J t) (I J x.se) (I J (x.tm/m.c.wh t))
 have o:Z w.1.size G ((((G.setCell ⟨w.1.size+1,0,O⟩ (I J t)).setCell ⟨w.1.size+1,1,O⟩ (I J x.se)).setCell ⟨w.1.size+1,2,O⟩ (I J (x.tm/m.c.wh t))).drew):=((((Q _ _).setCell (p:=⟨w.1.size+1,0,O⟩) (show w.1.size<=w.1.size+1 by omega) _).setCell (p:=⟨w.1.size+1,1,O⟩) (show w.1.size<=w.1.size+1 by omega) _).setCell (p:=⟨w.1.size+1,2,O⟩) (show w.1.size<=w.1.size+1 by omega) _).drew
 refine bodyPost_ret (v:=.agg #[I J t,I J x.se,I J (x.tm/m.c.wh t)]) (results_cell_row results198 _ _ (w.1.size+1) _ _ _ _ rfl P underlying232 rfl (by kernel_rfl)) rfl ?_
 exact⟨zla (ud k).symm (ud l).symm (ud HR).symm,d.trans ((b.mono d.size).trans o)⟩
theorem Yh(s f d b ke g:Int)(a:Option Addr)(n cap:Nat)(F W K:Nat->Int)(w:Y)(h:TS w a n F W K):
  Calls prog 120 #[.agg #[I J s,I J f,I J d,I J b,I J ke,I J g,.slice a n cap]] w fun e w'=>e=.returned (.bool (xF s f d b ke g n F W K))/\Z w.1.size w w':=by
 cases t:inB s 1 4
 ·have c:Hid (xF s f d b ke g n F W K=false):=by show _=_;simp[xF,t]
  go_enter func120,ntmps120
  go_wp2_with(go_at_call 77;refine(xI _ _ _ _).mono ?_;rintro e w' ⟨rfl,rfl⟩)
  go_ret
  exact⟨zL c.out.symm,(Q _ _).alloc (U _) _⟩
 cases u:inB f 1 100
 ·have c:Hid (xF s f d b ke g n F W K=false):=by show _=_;simp[xF,u]
  go_enter func120,ntmps120
  go_wp2_with(go_at_call 77;refine(xI _ _ _ _).mono ?_;rintro e w' ⟨rfl,rfl⟩)
  go_ret
  exact⟨zL c.out.symm,(Q _ _).alloc (U _) _⟩
 cases v:inB d 0 100
 ·have c:Hid (xF s f d b ke g n F W K=false):=by show _=_;simp[xF,v]
  go_enter func120,ntmps120
  go_wp2_with(go_at_call 77;refine(xI _ _ _ _).mono ?_;rintro e w' ⟨rfl,rfl⟩)
  go_ret
  exact⟨zL c.out.symm,(Q _ _).alloc (U _) _⟩
 cases l:inB b 1 50
 ·have c:Hid (xF s f d b ke g n F W K=false):=by show _=_;simp[xF,l]
  go_enter func120,ntmps120
  go_wp2_with(go_at_call 77;refine(xI _ _ _ _).mono ?_;rintro e w' ⟨rfl,rfl⟩)
  go_ret
  exact⟨zL c.out.symm,(Q _ _).alloc (U _) _⟩
 cases x:inB ke 0 1000
 ·have c:Hid (xF s f d b ke g n F W K=false):=by show _=_;simp[xF,x]
  go_enter func120,ntmps120
  go_wp2_with(go_at_call 77;refine(xI _ _ _ _).mono ?_;rintro e w' ⟨rfl,rfl⟩)
  go_ret
  exact⟨zL c.out.symm,(Q _ _).alloc (U _) _⟩
 cases y:inB g 1 400
 ·have c:Hid (xF s f d b ke g n F W K=false):=by show _=_;simp[xF,y]
  go_enter func120,ntmps120
  go_wp2_with(go_at_call 77;refine(xI _ _ _ _).mono ?_;rintro e w' ⟨rfl,rfl⟩)
  go_ret
  exact⟨zL c.out.symm,(Q _ _).alloc (U _) _⟩
 cases m:inB (n:Int) 1 4
 ·have c:Hid (xF s f d b ke g n F W K=false):=by show _=_;simp[xF,m]
  go_enter func120,ntmps120
  go_wp2_with(go_at_call 77;refine(xI _ _ _ _).mono ?_;rintro e w' ⟨rfl,rfl⟩)
  go_ret
  exact⟨zL c.out.symm,(Q _ _).alloc (U _) _⟩
 have hn:n<=4:=by rw[qq]at m;omega
 have r:1<=b/\b<=1000:=by rw[qq]at l;omega
 have o:TS (w.alloc (.cells #[I J s,I J f,I J d,I J b,I J ke,I J g,.slice a n cap] 27)) a n F W K:=h.below ((Q _ _).alloc (U _) _)
 cases k:kR n (vS n F W K)
 ·have c:Hid (xF s f d b ke g n F W K=false):=by show _=_;simp[xF,k]
  go_enter func120,ntmps120
  go_wp2_with(first|(go_at_call 77;refine(xI _ _ _ _).mono ?_;rintro e w' ⟨rfl,rfl⟩)|(go_at_call 171;refine(K8 _ n cap F W K hn _ o).mono ?_;rintro e w' ⟨rfl,j⟩))
  go_ret
  exact⟨zL c.out.symm,((Q _ _).alloc (U _) _).trans (j.mono (by simp))⟩
 ·have z:∀i,i<n-> -1<=F i/\F i<n:=fun i q=>by
   have:=(yV _ _).1 k i q;simp only[vS,Bool.and_eq_true,qq]at this;omega
  have A:∀i,i<n->1<=W i/\W i<=1000:=fun i q=>by
   have:=(yV _ _).1 k i q;simp only[vS,Bool.and_eq_true,qq]at this;omega
  have HR:Hid (xF s f d b ke g n F W K=kR n (zaq n b F W)):=by show _=_;simp[xF,t,u,v,l,x,y,m,k]
  go_enter func120,ntmps120
  go_wp2_with(first|(go_at_call 77;refine(xI _ _ _ _).mono ?_;rintro e w' ⟨rfl,rfl⟩)|(go_at_call 171;refine(K8 _ n cap F W K hn _ o).mono ?_;rintro e w' ⟨rfl,j⟩;obtain⟨_,B,C,D,G,H,L,M⟩:=(CF.made w 27 (0,0) s f d b ke g a n cap).below j (by simp))|(go_at_call 172;refine(zjk s f d b ke g _ n cap F W K hn z r A _ (o.below j)).mono ?_;rintro e N ⟨rfl,p⟩))
  go_ret
  exact⟨zL HR.out.symm,(((Q _ _).alloc (U _) _).trans (j.mono (by simp))).trans (p.mono (by have:=j.size;simp at this;omega))⟩
theorem Xh(s c b f ke d:Int)(a:Option Addr)(n cap:Nat)(F W K:Nat->Int)(w:Y)(h:TS w a n F W K):
  Calls prog 61 #[.agg #[I J s,I J c,I J b,I J f,I J ke,I J d,.slice a n cap]] w fun e w'=>e=.returned (I J (ZZ (xF s c b f ke d n F W K)))/\Z w.1.size w w':=by
 have g:TS (w.alloc (.cells #[I J s,I J c,I J b,I J f,I J ke,I J d,.slice a n cap] 27)) a n F W K:=h.below ((Q _ _).alloc (U _) _)
 cases e:xF s c b f ke d n F W K
 all_goals
  go_enter func61,ntmps61
  go_wp2_with(go_at_call 120;refine(Yh s c b f ke d _ n cap F W K _ g).mono ?_;rintro e w' ⟨rfl,i⟩)
  go_ret
  exact⟨rfl,((Q _ _).alloc (U _) _).trans (i.mono (by simp))⟩
theorem ZE(x:Int)(w:Y):Calls prog 98 #[I J x] w fun e w'=>e=.returned (I J x)/\w'=w:=by
 go_enter func98,ntmps98
 go_wp2
 go_ret
 exact⟨rfl,rfl⟩
structure Ops where
 kd:Int
 on:Int
 a:Int
 b:Int
 c:Int
 v:Int
 te:Int
 tn:Int
 fs:Int
 fe:Int
 fd:Int
 fw:Int
 fk:Int
 fq:Int
 fa:Option Addr
 fn:Nat
 fc:Nat
abbrev Ops.cells(o:Ops):Array X:=#[I J o.kd,I J o.on,I J o.a,I J o.b,I J o.c,I i32 o.v,I J o.te,I J o.tn,I J o.fs,I J o.fe,I J o.fd,I J o.fw,I J o.fk,I J o.fq,.slice o.fa o.fn o.fc]
def Cf.end(c:Cf)(s:Sg):Int:=(s.we+1)*c.wh s.t
def Cf.keep(c:Cf)(t:Int):Int:=if t= -1 then c.ke else c.K t.toNat
theorem Cf.ok.ends{c:Cf}(h:c.ok){s:Sg}(a: -1<=s.t)(b:s.t<c.n)(e:0<=s.we)(f:s.we<=100000):0<=c.end s/\c.end s<=100001000:=by
 obtain⟨g,d⟩:=h.wh a b
 unfold Cf.end
 refine⟨Int.mul_nonneg (by omega) (by omega),?_⟩
 have:(s.we+1)*c.wh s.t<=(100000+1)*1000:=Int.mul_le_mul (by omega) d (by omega) (by omega)
 omega
theorem Cf.ok.keeps{c:Cf}(h:c.ok){t:Int}(a: -1<=t)(b:t<c.n):0<=c.keep t/\c.keep t<=1000:=by
 unfold Cf.keep
 split
 ·exact h.ke
 ·exact h.K _ (by omega)
theorem Vb{B:Nat}{w:Y}{p:Nat}{m:RM}{tv nv pv gv kv:X}(h:zJ B w p m tv nv pv gv kv)(j:m.c.ok)(s:Sg)(d: -1<=s.t)(f:s.t<m.c.n)(x:0<=s.we)(y:s.we<=100000):
  Calls prog 157 #[.pointer (E ⟨p,0,O⟩),.agg #[I J s.t,I J s.se,I J s.we]] w fun e w'=>e=.returned (I J (m.c.end s))/\Z w.1.size w w':=by
 obtain⟨a,cap,A⟩:=zq h.trow
 subst A
 have hp:=h.lt
 have z:=TS.of_owns h.trow
 obtain⟨S,T,V,c3,c4,c5,c6⟩:=h.conf
 obtain⟨M,N⟩:=j.wh d f
 obtain⟨k,l⟩:=j.ends d f x y
 have r:=j.n4
 have H:Hid (xd m.c.wi m.c.W s.t=m.c.wh s.t):=rfl
 have HR:Hid (m.c.end s=(s.we+1)*m.c.wh s.t):=rfl
 rw[ud HR]at k l
 have D:=zo w (.cells #[I J s.t,I J s.se,I J s.we] 232)
 have G:=zF w (.cells #[I J s.t,I J s.se,I J s.we] 232)
 have i:Z w.1.size w (w.alloc (.cells #[I J s.t,I J s.se,I J s.we] 232)):=(Q _ _).alloc (U _) _
 obtain⟨-,-,C,-⟩:=zc D
 have L:=ze C
 have R:=ze G
 have v:Nonempty (zm (w.1.size+1) (w.alloc (.cells #[I J s.t,I J s.se,I J s.we] 232))):=zm.some _ _
 have q:=fun(u:zm (w.1.size+1) (w.alloc (.cells #[I J s.t,I J s.se,I J s.we] 232))) b o h=>u.cell b o h
 clear h D G C
 go_enter func157,ntmps157
 go_wp2_with fail
 refine zh (w.1.size+1) (by kernel_rfl) (by kernel_rfl) ?_
 repeat(go_big_quiet_step (first|(go_at_call 101;exact Calls.later (by simp) (vH _ _ _ _ _ _ _ _ cap m.c.F m.c.W m.c.K s.t d f r _ (z.below (i.trans (Below.mono (Subtype.property _) (by omega))))))))
 refine wpQuiet_nil ?_
 rintro⟨P,g⟩
 clear q v
 have C:P.cell? ⟨w.1.size,2,O⟩=E (I J s.we):=(g.cell (p:=⟨w.1.size,2,O⟩) (show w.1.size<w.1.size+1 by omega)).trans (ud L)
 dsimp only
 rw[ud H]
 go_wp2_with fail
 go_ret
 exact⟨jK (ud HR).symm,i.trans (g.mono (by omega))⟩
theorem Vk{B:Nat}{w:Y}{p:Nat}{m:RM}{tv nv pv gv kv:X}(h:zJ B w p m tv nv pv gv kv)(k:m.c.ok)(t:Int)(q: -1<=t)(r:t<m.c.n):
  Calls prog 230 #[.pointer (E ⟨p,0,O⟩),I J t] w fun e w'=>e=.returned (I J (m.c.keep t))/\w'=w:=by
 obtain⟨a,cap,g⟩:=zq h.trow
 subst g
 have H:=h.lt
 have f:=TS.of_owns h.trow
 obtain⟨u,v,x,y,z,A,C⟩:=h.conf
 have l:=k.n4
 by_cases e:t= -1
 ·subst e
  have HR:Hid (m.c.keep (-1)=m.c.ke):=rfl
  clear h
  go_enter func230,ntmps230
  go_wp2
  go_ret
  exact⟨jK (ud HR).symm,rfl⟩
 ·obtain⟨i,rfl⟩:=Int.eq_ofNat_of_zero_le (show 0<=t by omega)
  have HR:Hid (m.c.keep (i:Int)=m.c.K i):=by show _=_;unfold Cf.keep;rw[if_neg e];simp
  obtain⟨b,s,rfl,j,d⟩:=f (by omega)
  obtain⟨D,F,G⟩:=d i (by omega)
  have o:((i:Int)== -1)=false:=beq_eq_false_iff_ne.2 e
  clear h d e
  go_enter func230,ntmps230
  go_wp2
  go_ret
  exact⟨jK (ud HR).symm,rfl⟩
def OS(w:Y)(a:Option Addr)(n:Nat)(G:Nat->Ops):Prop:=
 0<n->∃b d,a=E ⟨b,d,O⟩/\b<w.1.size/\∀i,i<n->w.cell? ⟨b,d+i*15,O⟩=E (I J (G i).kd)/\w.cell? ⟨b,d+i*15+1,O⟩=E (I J (G i).on)/\w.cell? ⟨b,d+i*15+2,O⟩=E (I J (G i).a)/\w.cell? ⟨b,d+i*15+3,O⟩=E (I J (G i).b)/\w.cell? ⟨b,d+i*15+4,O⟩=E (I J (G i).c)/\w.cell? ⟨b,d+i*15+5,O⟩=E (I i32 (G i).v)/\w.cell? ⟨b,d+i*15+6,O⟩=E (I J (G i).te)/\w.cell? ⟨b,d+i*15+7,O⟩=E (I J (G i).tn)/\w.cell? ⟨b,d+i*15+8,O⟩=E (I J (G i).fs)/\w.cell? ⟨b,d+i*15+9,O⟩=E (I J (G i).fe)/\w.cell? ⟨b,d+i*15+10,O⟩=E (I J (G i).fd)/\w.cell? ⟨b,d+i*15+11,O⟩=E (I J (G i).fw)/\w.cell? ⟨b,d+i*15+12,O⟩=E (I J (G i).fk)/\w.cell? ⟨b,d+i*15+13,O⟩=E (I J (G i).fq)/\w.cell? ⟨b,d+i*15+14,O⟩=E (.slice (G i).fa (G i).fn (G i).fc)
structure Ops.fits(o:Ops):Prop where
 on: -9223372036854775808<=o.on/\o.on<=9223372036854775807
 a: -9223372036854775808<=o.a/\o.a<=9223372036854775807
 v: -2147483648<=o.v/\o.v<=2147483647
 te: -9223372036854775808<=o.te/\o.te<=9223372036854775807
 tn: -9223372036854775808<=o.tn/\o.tn<=9223372036854775807
 size:24*(o.fn+1)<=281474976710656
theorem zfx(c:Int)(n:Nat)(hn:0<n):∃i:Nat,c%(n:Int)=i/\i<n:=by
 have a:=Int.emod_nonneg c (show(n:Int)≠0 by omega)
 have b:=Int.emod_lt_of_pos c (show(0:Int)<n by omega)
 exact⟨(c%(n:Int)).toNat,by omega,by omega⟩
theorem zfQ(c:Int)(n:Nat)(j: -9223372036854775808<=c/\c<=9223372036854775807)(hn:0<n):
  ∃i:Nat,i<n/\∀w:Y,Calls prog 54 #[I J c,I J n] w fun e w'=>e=.returned (I J i)/\w'=w:=by
 have g:¬(n:Int)=0:=by omega
 by_cases h:c<0
 ·obtain⟨i,a,d⟩:=zfx (-(c+1)) n hn
  refine⟨i,d,fun w=>?_⟩
  have b:=ze a
  clear a
  go_enter func54,ntmps54
  go_wp2
  go_ret
  have f: -(c+1).tmod (n:Int)=(-(c+1))%(n:Int):=by rw[<-Int.neg_tmod,Int.tmod_eq_emod_of_nonneg (by omega)]
  exact⟨by show Ending.returned (I J (-(c+1).tmod (n:Int)))=_;rw[f,ud b],rfl⟩
 ·obtain⟨i,a,d⟩:=zfx c n hn
  refine⟨i,d,fun w=>?_⟩
  have b:=ze a
  clear a
  go_enter func54,ntmps54
  go_wp2
  go_ret
  exact⟨by show Ending.returned (I J (c%(n:Int)))=_;rw[ud b],rfl⟩
theorem box3(w:Y)(a b c:Obj):(((w.alloc a).alloc b).alloc c).1[w.1.size]?=E a/\(((w.alloc a).alloc b).alloc c).1[w.1.size+1]?=E b/\(((w.alloc a).alloc b).alloc c).1[w.1.size+2]?=E c/\Z w.1.size w (((w.alloc a).alloc b).alloc c)/\(((w.alloc a).alloc b).alloc c).1.size=w.1.size+3:=by
 obtain⟨f,g,e,d⟩:=box2 w a b
 refine⟨(Below.heap_alloc _ _ _ (by rw[d];omega)).trans f,(Below.heap_alloc _ _ _ (by rw[d];omega)).trans g,by have:=zo ((w.alloc a).alloc b) c;rw[d]at this;exact this,e.alloc e.size _,by rw[zF,d]⟩
theorem qe{n:Nat}{a w:Y}{g i:Nat}{v:X}(h:Z n a w)(b:n<=g):Z n a (w.setCell ⟨g,i,O⟩ v):=h.setCell (p:=⟨g,i,O⟩) b v
theorem zgy{c:Cf}{s:Sg}{A:Cl}{x:Nm}(h:zI c s.t x=s):qB c s A x=jA A x.val:=by simp[qB,h]
theorem zdY{c:Cf}{s:Sg}{A:Cl}{x:Nm}(h:¬zI c s.t x=s):qB c s A x=A:=by simp[qB,h]
theorem zeq{A:Cl}{v:Int}(h:A.cnt=0):jA A v=⟨A.cnt+1,A.sum+v,v,v⟩:=by simp[jA,h]
theorem zkq{A:Cl}{v:Int}(h:¬A.cnt=0)(a:v<A.mn)(b:A.mx<v):jA A v=⟨A.cnt+1,A.sum+v,v,v⟩:=by simp[jA,a,b]
theorem zkr{A:Cl}{v:Int}(h:¬A.cnt=0)(a:v<A.mn)(b:¬A.mx<v):jA A v=⟨A.cnt+1,A.sum+v,v,A.mx⟩:=by simp[jA,h,a,b]
theorem zks{A:Cl}{v:Int}(h:¬A.cnt=0)(a:¬v<A.mn)(b:A.mx<v):jA A v=⟨A.cnt+1,A.sum+v,A.mn,v⟩:=by simp[jA,h,a,b]
theorem zkt{A:Cl}{v:Int}(h:¬A.cnt=0)(a:¬v<A.mn)(b:¬A.mx<v):jA A v=⟨A.cnt+1,A.sum+v,A.mn,A.mx⟩:=by simp[jA,h,a,b]
theorem zjQ{w:Y}{g:Nat}{a b c d:X}{t:TypeId}{e:Nat×Nat}(h:w.1[g]?=E (.cells #[a,b,c,d] t e))(x y z u:X):((((w.setCell ⟨g,0,O⟩ x).setCell ⟨g,1,O⟩ y).setCell ⟨g,2,O⟩ z).setCell ⟨g,3,O⟩ u).1[g]?=E (.cells #[x,y,z,u] t e):=
 xm (i:=3) (xm (i:=2) (xm (i:=1) (xm (i:=0) h x) y) z) u
def V6(A:Cl):Obj:=.cells #[I J A.cnt,I J A.sum,I i32 A.mn,I i32 A.mx] 114 (0,0)
theorem zky{w:Y}{g:Nat}{A:Cl}(h:w.1[g]?=E (V6 A))(c s a b:Int):((((w.setCell ⟨g,2,O⟩ (I i32 a)).setCell ⟨g,3,O⟩ (I i32 b)).setCell ⟨g,0,O⟩ (I J c)).setCell ⟨g,1,O⟩ (I J s)).1[g]?=E (V6 ⟨c,s,a,b⟩):=
 xm (i:=1) (xm (i:=0) (xm (i:=3) (xm (i:=2) h (I i32 a)) (I i32 b)) (I J c)) (I J s)
theorem cl_2{w:Y}{g:Nat}{A:Cl}(h:w.1[g]?=E (V6 A))(c s a:Int):(((w.setCell ⟨g,2,O⟩ (I i32 a)).setCell ⟨g,0,O⟩ (I J c)).setCell ⟨g,1,O⟩ (I J s)).1[g]?=E (V6 ⟨c,s,a,A.mx⟩):=
 xm (i:=1) (xm (i:=0) (xm (i:=2) h (I i32 a)) (I J c)) (I J s)
theorem cl_3{w:Y}{g:Nat}{A:Cl}(h:w.1[g]?=E (V6 A))(c s b:Int):(((w.setCell ⟨g,3,O⟩ (I i32 b)).setCell ⟨g,0,O⟩ (I J c)).setCell ⟨g,1,O⟩ (I J s)).1[g]?=E (V6 ⟨c,s,A.mn,b⟩):=
 xm (i:=1) (xm (i:=0) (xm (i:=3) h (I i32 b)) (I J c)) (I J s)
theorem cl_0{w:Y}{g:Nat}{A:Cl}(h:w.1[g]?=E (V6 A))(c s:Int):((w.setCell ⟨g,0,O⟩ (I J c)).setCell ⟨g,1,O⟩ (I J s)).1[g]?=E (V6 ⟨c,s,A.mn,A.mx⟩):=
 xm (i:=1) (xm (i:=0) h (I J c)) (I J s)
theorem zbC{B:Nat}{w:Y}{p:Nat}{m:RM}{tv nv pv gv kv:X}(h:zJ B w p m tv nv pv gv kv)(hc:m.c.ok)(ao:m.nu.length<=1000000000)(M:∀x∈m.nu,x.ok)(s:Sg)(ac: -1<=s.t)(ad:s.t<m.c.n):
  Calls prog 158 #[.pointer (E ⟨p,0,O⟩),.agg #[I J s.t,I J s.se,I J s.we]] w fun e w'=>e=.returned (.agg #[I J (xn m.c s m.nu).cnt,I J (xn m.c s m.nu).sum,I i32 (xn m.c s m.nu).mn,I i32 (xn m.c s m.nu).mx])/\Z w.1.size w w':=by
 obtain⟨b1,b2,b3,a6,bz⟩:=box3 w (.cells #[I J s.t,I J s.se,I J s.we] 232) (.cells #[I J 0,I J 0,I i32 0,I i32 0] 114) (.cells #[I J 0,I J 0,I i32 0,I i32 0] 114)
 have B1:=ze b1
 have B2:=ze b2
 have B3:=ze b3
 have BZ:=ze bz
 have H:=ze h
 obtain⟨an,cn,ab⟩:=zq h.nrow
 subst ab
 clear h b1 b2 b3 bz
 go_enter func158,ntmps158
 go_wp2_with fail
 generalize hW:(((w.alloc (.cells #[I J s.t,I J s.se,I J s.we] 232)).alloc (.cells #[I J 0,I J 0,I i32 0,I i32 0] 114)).alloc (.cells #[I J 0,I J 0,I i32 0,I i32 0] 114))=W at*
 go_loopw [6,7,8] (fun y _ _ wr=>∃(k:Nat),k<=m.nu.length/\y=I J k/\wr.1[w.1.size+2]?=E (V6 (xn m.c s (m.nu.take k)))/\Z (w.1.size+2) W wr) (fun y _ _ _=>m.nu.length-(intOf y).toNat)
 case atStart=>exact⟨0,Nat.zero_le _,rfl,ud B3,Q _ _⟩
 case round=>
  obtain⟨k,hk,rfl,K,T⟩:=hrel
  have r:Z w.1.size w wr:=a6.trans (T.mono (by omega))
  have hr:=(ud H).later r
  have ap:=hr.lt
  obtain⟨r7,r8,r9,ag,ah,ai,aj⟩:=hr.rest
  have ar:w.1.size+2<wr.1.size:=by have:=T.size;rw[ud BZ]at this;omega
  have ax:w.1.size<wr.1.size:=by omega
  have F:=ze hr
  have R:=ze T
  have a5:=ze r
  have aq:=(ud H).lt
  clear hr T r r7 r9 ag ah ai aj
  by_cases aa:k<m.nu.length
  ·obtain⟨x,N⟩:=xr aa
   have ae:=M x (List.mem_of_getElem? N)
   obtain⟨g,ak,hv,_,a8,x0,x1,x2⟩:=zkU (ud F).nrow N
   cases hv
   have u:=QN m.c s m.nu k x N
   have L:=kb (c:=m.c) (s:=s) (nu:=m.nu.take k) (fun y hy=>M y (List.mem_of_mem_take hy))
   have am:(k:Int)<m.nu.length:=by omega
   rw[List.length_take,Nat.min_eq_left hk]at L
   generalize xn m.c s (m.nu.take k)=A at*
   obtain⟨a1,a2,a3,a4⟩:=L
   have HX:=ze N
   have b:=ze u
   have a0:=ze K
   obtain⟨o1,o2,o3,o4,o5,o6⟩:=ae
   have D:Z wr.1.size wr (wr.alloc (.cells #[I J x.se,I J x.tm,I i32 x.val] 269)):=(Q _ _).alloc (U _) _
   have z:=ze (ZH ((ud F).later D) hc s.t ac ad x ⟨o1,o2,o3,o4,o5,o6⟩)
   obtain⟨s0,-⟩:=zc ((ud R).block w.1.size (by omega)|>.trans (ud B1))
   clear N u K
   go_wp2_with fail
   refine(ud z).mono ?_
   rintro e P ⟨rfl,l⟩
   have q:=(ud R).block w.1.size (by omega)|>.trans (ud B1)
   have q1:=(l.block w.1.size (by rw[zF];omega)).trans ((Below.heap_alloc _ _ _ (by omega)).trans q)
   have q2:=(l.block (w.1.size+2) (by rw[zF];omega)).trans ((Below.heap_alloc _ _ _ (by omega)).trans (ud a0))
   have q3:=(l.block wr.1.size (by rw[zF];omega)).trans (zo _ _)
   have au:wr.1.size<P.1.size:=by have:=l.size;rw[zF]at this;omega
   have av:w.1.size<P.1.size:=by omega
   have aw:w.1.size+1+1<P.1.size:=by omega
   obtain⟨t0,t1,t2,-⟩:=zc q1
   obtain⟨-,-,n2,-⟩:=zc q3
   obtain⟨d0,d1,d2,d3,-⟩:=zc q2
   have df:∀j,P.frozen? ⟨w.1.size+1+1,j,O⟩=false:=fun j=>zD q2 j
   have i:=ze q2
   have d:=ze (show Z (w.1.size+2) W P from(ud R).trans ((D.mono (by omega)).trans (l.mono (by rw[zF];omega))))
   clear q q1 q2 q3 l s0 x0 x1 x2 D r8 a8
   by_cases a:zI m.c s.t x=s
   ·have C:=ze (zgy (A:=A) a)
    have hh:=a
    clear z
    rw[a]
    clear a hh
    by_cases o:A.cnt=0
    ·have f:=ze (zeq (v:=x.val) o)
     have af:(A.cnt==0)=true:=by simp[o]
     clear o
     go_wp2_with fail
     go_roundw
     case rel=>
      refine⟨k+1,by omega,by go_num,?_,?_⟩
      ·rw[ud b,ud C,ud f]
       exact(Below.heap_alloc _ _ _ (by simp[World.setCell];omega)).trans (zky (ud i) _ _ _ _)
      ·refine Below.alloc ?_ (by simp[World.setCell];omega) _
       repeat(refine qe ?_ (show w.1.size+2<=w.1.size+1+1 by omega))
       exact ud d
     case measure=>simp[intOf];omega
    ·have af:(A.cnt==0)=false:=by simp[o]
     by_cases S:x.val<A.mn
     ·by_cases G:A.mx<x.val
      ·have f:=ze (zkq (v:=x.val) o S G)
       clear o
       go_wp2_with fail
       go_roundw
       case rel=>
        refine⟨k+1,by omega,by go_num,?_,?_⟩
        ·rw[ud b,ud C,ud f]
         exact(Below.heap_alloc _ _ _ (by simp[World.setCell];omega)).trans (zky (ud i) _ _ _ _)
        ·refine Below.alloc ?_ (by simp[World.setCell];omega) _
         repeat(refine qe ?_ (show w.1.size+2<=w.1.size+1+1 by omega))
         exact ud d
       case measure=>simp[intOf];omega
      ·have f:=ze (zkr (v:=x.val) o S G)
       clear o
       go_wp2_with fail
       go_roundw
       case rel=>
        refine⟨k+1,by omega,by go_num,?_,?_⟩
        ·rw[ud b,ud C,ud f]
         exact(Below.heap_alloc _ _ _ (by simp[World.setCell];omega)).trans (cl_2 (ud i) _ _ _)
        ·refine Below.alloc ?_ (by simp[World.setCell];omega) _
         repeat(refine qe ?_ (show w.1.size+2<=w.1.size+1+1 by omega))
         exact ud d
       case measure=>simp[intOf];omega
     ·by_cases G:A.mx<x.val
      ·have f:=ze (zks (v:=x.val) o S G)
       clear o
       go_wp2_with fail
       go_roundw
       case rel=>
        refine⟨k+1,by omega,by go_num,?_,?_⟩
        ·rw[ud b,ud C,ud f]
         exact(Below.heap_alloc _ _ _ (by simp[World.setCell];omega)).trans (cl_3 (ud i) _ _ _)
        ·refine Below.alloc ?_ (by simp[World.setCell];omega) _
         repeat(refine qe ?_ (show w.1.size+2<=w.1.size+1+1 by omega))
         exact ud d
       case measure=>simp[intOf];omega
      ·have f:=ze (zkt (v:=x.val) o S G)
       clear o
       go_wp2_with fail
       go_roundw
       case rel=>
        refine⟨k+1,by omega,by go_num,?_,?_⟩
        ·rw[ud b,ud C,ud f]
         exact(Below.heap_alloc _ _ _ (by simp[World.setCell];omega)).trans (cl_0 (ud i) _ _)
        ·refine Below.alloc ?_ (by simp[World.setCell];omega) _
         repeat(refine qe ?_ (show w.1.size+2<=w.1.size+1+1 by omega))
         exact ud d
       case measure=>simp[intOf];omega
   ·have C:=ze (zdY (A:=A) a)
    have V:=zjS a
    clear a
    rcases V with V|⟨a7,V⟩|⟨a7,al,V⟩
    all_goals
     go_wp2_with fail
     go_roundw
     case rel=>exact⟨k+1,by omega,by go_num,by rw[ud b,ud C];exact(Below.heap_alloc _ _ _ (by omega)).trans (ud i),(ud d).alloc (by omega) _⟩
     case measure=>simp[intOf];omega
  ·have a9:k=m.nu.length:=by omega
   rw[a9,List.take_length]at K
   obtain⟨d0,d1,d2,d3,-⟩:=zc K
   have q:=(ud R).block (w.1.size+1) (by omega)|>.trans (ud B2)
   obtain⟨d4,d5,d6,d7,-⟩:=zc q
   have df:∀j,wr.frozen? ⟨w.1.size+1,j,O⟩=false:=fun j=>zD q j
   have Q1:=ze q
   clear q K
   go_wp2_with fail
   have hf:=zjQ (ud Q1) (I J (xn m.c s m.nu).cnt) (I J (xn m.c s m.nu).sum) (I i32 (xn m.c s m.nu).mn) (I i32 (xn m.c s m.nu).mx)
   refine bodyPost_ret (v:=.agg #[I J (xn m.c s m.nu).cnt,I J (xn m.c s m.nu).sum,I i32 (xn m.c s m.nu).mn,I i32 (xn m.c s m.nu).mx]) (results_cell_row results158 _ _ (w.1.size+1) _ _ _ _ rfl hf underlying114 rfl (by kernel_rfl)) rfl ⟨rfl,?_⟩
   refine(ud a5).trans ?_
   repeat(refine qe ?_ (show w.1.size<=w.1.size+1 by omega))
   exact Q _ _
end Go.Proofs.YtpbimdkclnekeaaGreat
