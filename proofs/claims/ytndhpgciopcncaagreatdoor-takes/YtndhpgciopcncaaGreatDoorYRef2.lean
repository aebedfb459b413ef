import Derived.Test.YtndhpgciopcncaaGreatDoorYConf2
open Go.Value renaming int → I
open Go.IntKind renaming i64 → J
open Nat renaming le_refl → O
open Go.RowKit.Below renaming refl → E
open Option renaming some → Q
open Option renaming none → U
open Go.IntKind (i32)
set_option linter.unusedVariables false
set_option maxHeartbeats 1000000
open Go.Proofs.Tryz
namespace Go.Proofs.YtndhpgciopcncaaGreatDoor
open Go.RowKit
structure zQ(B:Nat)(w:World)(p:Nat)(m:RM)(tv nv pv gv kv:Value):Prop where
 head:w.1[p]?=Q (.cells #[I J m.c.s,I J m.c.le,I J m.c.la,I J m.c.wi,I J m.c.ke,I J m.c.qu,tv,I J m.now,nv,pv,gv,kv,I J m.epoch,I J m.picks] 228 (0,0))
 base:B<=p
 trow:w.ownsRow B 80 3 tv m.c.n (ZM m.c.n m.c.F m.c.W m.c.K)
 nrow:w.ownsRow B 319 3 nv m.nu.length (m.nu.flatMap nmV)
 prow:w.ownsRow B 287 3 pv m.pub.length (m.pub.flatMap sgV)
 grow:w.ownsRow B 287 3 gv m.gone.length (m.gone.flatMap sgV)
 krow:w.ownsRow B 294 11 kv m.tk.length (m.tk.flatMap tkV)
section
variable {B:Nat} {w:World} {p:Nat} {m:RM} {tv nv pv gv kv:Value}
def jd(p:Nat)(tv nv pv gv kv:Value)(k:Nat):Prop:=k=p\/tv.ownBlock=Q k\/nv.ownBlock=Q k\/pv.ownBlock=Q k\/gv.ownBlock=Q k\/kv.ownBlock=Q k
theorem zQ.kept{f:Nat->Prop}{w':World}(h:zQ B w p m tv nv pv gv kv)(b:zk f w w')(hn:∀k,jd p tv nv pv gv kv k->¬f k):zQ B w' p m tv nv pv gv kv:=
 ⟨b.heap h.head (hn p (.inl rfl)),h.base,zg h.trow b (fun k a=>hn k (.inr (.inl a))),zg h.nrow b (fun k a=>hn k (.inr (.inr (.inl a)))),zg h.prow b (fun k a=>hn k (.inr (.inr (.inr (.inl a))))),zg h.grow b (fun k a=>hn k (.inr (.inr (.inr (.inr (.inl a)))))),zg h.krow b (fun k a=>hn k (.inr (.inr (.inr (.inr (.inr a))))))⟩
theorem zQ.later{w':World}(h:zQ B w p m tv nv pv gv kv)(a:Below w.1.size w w'):zQ B w' p m tv nv pv gv kv:=
 h.kept (f:=fun _=>False) (zk.of_below a) (fun _ _ b=>b)
theorem zQ.lt(h:zQ B w p m tv nv pv gv kv):p<w.1.size:=zb h.head
theorem zQ.conf(h:zQ B w p m tv nv pv gv kv):w.cell? ⟨p,0,U⟩=Q (I J m.c.s)/\w.cell? ⟨p,1,U⟩=Q (I J m.c.le)/\w.cell? ⟨p,2,U⟩=Q (I J m.c.la)/\w.cell? ⟨p,3,U⟩=Q (I J m.c.wi)/\w.cell? ⟨p,4,U⟩=Q (I J m.c.ke)/\w.cell? ⟨p,5,U⟩=Q (I J m.c.qu)/\w.cell? ⟨p,6,U⟩=Q tv:=by
 refine⟨?_,?_,?_,?_,?_,?_,?_⟩<;>rw[xd h.head]<;>rfl
theorem zQ.rest(h:zQ B w p m tv nv pv gv kv):w.cell? ⟨p,7,U⟩=Q (I J m.now)/\w.cell? ⟨p,8,U⟩=Q nv/\w.cell? ⟨p,9,U⟩=Q pv/\w.cell? ⟨p,10,U⟩=Q gv/\w.cell? ⟨p,11,U⟩=Q kv/\w.cell? ⟨p,12,U⟩=Q (I J m.epoch)/\w.cell? ⟨p,13,U⟩=Q (I J m.picks):=by
 refine⟨?_,?_,?_,?_,?_,?_,?_⟩<;>rw[xd h.head]<;>rfl
end
theorem TS.of_owns{w:World}{B:Nat}{e:TypeId}{a:Option Addr}{n cap:Nat}{F W K:Nat->Int}(h:w.ownsRow B e 3 (.slice a n cap) n (ZM n F W K)):TS w a n F W K:=fun k=>by
 obtain⟨g,d,hv,l,c⟩:=h.form k
 cases hv
 refine⟨g,0,rfl,c,fun i m=>?_⟩
 have e:∀j,j<n*3->w.cell? ⟨g,j,U⟩=Q (Zo F W K j):=fun j f=>by
  rw[h.cellAt _ f,Q8 n F W K j f]
 refine⟨?_,?_,?_⟩
 ·rw[e _ (by omega)];simp[Zo]
 ·have b:(i*3+1)/3=i:=by omega
  rw[e _ (by omega)];simp[Zo,Nat.add_mod,b]
 ·have b:(i*3+2)/3=i:=by omega
  rw[e _ (by omega)];simp[Zo,Nat.add_mod,b]
theorem box2(w:World)(a b:Obj):((w.alloc a).alloc b).1[w.1.size]?=Q a/\((w.alloc a).alloc b).1[w.1.size+1]?=Q b/\Below w.1.size w ((w.alloc a).alloc b)/\((w.alloc a).alloc b).1.size=w.1.size+2:=by
 refine⟨(Below.heap_alloc _ _ _ (by simp)).trans (zr _ _),by have:=zr (w.alloc a) b;rw[zG]at this;exact this,((E _ _).alloc (O _) _).alloc (by simp) _,by simp⟩
theorem xi{w:World}{g i:Nat}{cs:Array Value}{t:TypeId}{a:Nat×Nat}(h:w.1[g]?=Q (.cells cs t a))(v:Value):(w.setCell ⟨g,i,U⟩ v).1[g]?=Q (.cells (cs.setIfInBounds i v) t a):=by
 rw[setCell_eq_setRow w g i cs t a v h]
 exact setRow_heap w g _ _ t _ h
theorem set3{w:World}{g:Nat}{a b c:Value}{t:TypeId}{d:Nat×Nat}(h:w.1[g]?=Q (.cells #[a,b,c] t d))(x y z:Value):((((w.setCell ⟨g,0,U⟩ x).setCell ⟨g,1,U⟩ y).setCell ⟨g,2,U⟩ z).drew).1[g]?=Q (.cells #[x,y,z] t d):=by
 have:=xi (i:=2) (xi (i:=1) (xi (i:=0) h x) y) z
 exact this
theorem zke{a b c d b' e:Int}(f:a=d)(g:b=b')(h:c=e):Ending.returned (.agg #[I J a,I J b,I J c])=.returned (.agg #[I J d,I J b',I J e]):=by rw[f,g,h]
theorem Za{B:Nat}{w:World}{p:Nat}{m:RM}{tv nv pv gv kv:Value}(h:zQ B w p m tv nv pv gv kv)(D:m.c.ok)(t:Int)(f: -1<=t)(g:t<m.c.n)(x:Nm)(T:x.ok):
  Calls prog 247 #[.pointer (Q ⟨p,0,U⟩),I J t,.agg #[I J x.se,I J x.tm,I i32 x.val]] w fun e w'=>e=.returned (.agg #[I J (zt m.c t x).t,I J (zt m.c t x).se,I J (zt m.c t x).wn])/\Below w.1.size w w':=by
 obtain⟨a,cap,s⟩:=zm h.trow
 subst s
 have hp:=h.lt
 have r:=TS.of_owns h.trow
 obtain⟨c0,c1,c2,c3,c4,c5,c6⟩:=h.conf
 obtain⟨R,S⟩:=D.wh f g
 have q:=D.n4
 obtain⟨V,X,Y,Z,a0,a1⟩:=T
 have N:Hid (zY m.c.wi m.c.W t=m.c.wh t):=rfl
 have HR:Hid ((zt m.c t x).wn=x.tm/m.c.wh t):=rfl
 have k:Hid ((zt m.c t x).t=t):=rfl
 have l:Hid ((zt m.c t x).se=x.se):=rfl
 obtain⟨y,z,d,A⟩:=box2 w (.cells #[I J x.se,I J x.tm,I i32 x.val] 319) (.cells #[I J 0,I J 0,I J 0] 287)
 have H:=zd y
 have L:=zd z
 have u:=zd A
 clear h y z A
 go_enter func247,ntmps247
 go_wp2_with(go_at_call 138;refine(kY _ _ _ _ _ _ _ _ cap m.c.F m.c.W m.c.K t f g q _ (r.below d)).mono ?_;rintro e G ⟨rfl,b⟩;rw[ud N])
 have C:=(b.block w.1.size (by rw[ud u];omega)).trans (ud H)
 have i:=(b.block (w.1.size+1) (by rw[ud u];omega)).trans (ud L)
 obtain⟨z0,z1,-⟩:=zc C
 obtain⟨y0,y1,y2,-⟩:=zc i
 have y3:=fun j=>zH i j
 have M:=zd i
 clear C i
 go_region
 go_wp2_with fail
 have P:=set3 (ud M) (I J t) (I J x.se) (I J (x.tm/m.c.wh t))
 have o:Below w.1.size G ((((G.setCell ⟨w.1.size+1,0,U⟩ (I J t)).setCell ⟨w.1.size+1,1,U⟩ (I J x.se)).setCell ⟨w.1.size+1,2,U⟩ (I J (x.tm/m.c.wh t))).drew):=((((E _ _).setCell (p:=⟨w.1.size+1,0,U⟩) (show w.1.size<=w.1.size+1 by omega) _).setCell (p:=⟨w.1.size+1,1,U⟩) (show w.1.size<=w.1.size+1 by omega) _).setCell (p:=⟨w.1.size+1,2,U⟩) (show w.1.size<=w.1.size+1 by omega) _).drew
 refine bodyPost_ret (v:=.agg #[I J t,I J x.se,I J (x.tm/m.c.wh t)]) (results_cell_row results247 _ _ (w.1.size+1) _ _ _ _ rfl P underlying287 rfl (by kernel_rfl)) rfl ?_
 exact⟨zke (ud k).symm (ud l).symm (ud HR).symm,d.trans ((b.mono d.size).trans o)⟩
theorem QG(s f d b ke g:Int)(a:Option Addr)(n cap:Nat)(F W K:Nat->Int)(w:World)(h:TS w a n F W K):
  Calls prog 125 #[.agg #[I J s,I J f,I J d,I J b,I J ke,I J g,.slice a n cap]] w fun e w'=>e=.returned (.bool (xt s f d b ke g n F W K))/\Below w.1.size w w':=by
 cases t:inB s 1 4
 ·have c:Hid (xt s f d b ke g n F W K=false):=by show _=_;simp[xt,t]
  go_enter func125,ntmps125
  go_wp2_with(go_at_call 92;refine(xB _ _ _ _).mono ?_;rintro e w' ⟨rfl,rfl⟩)
  go_ret
  exact⟨zy c.out.symm,(E _ _).alloc (O _) _⟩
 cases u:inB f 1 100
 ·have c:Hid (xt s f d b ke g n F W K=false):=by show _=_;simp[xt,u]
  go_enter func125,ntmps125
  go_wp2_with(go_at_call 92;refine(xB _ _ _ _).mono ?_;rintro e w' ⟨rfl,rfl⟩)
  go_ret
  exact⟨zy c.out.symm,(E _ _).alloc (O _) _⟩
 cases v:inB d 0 100
 ·have c:Hid (xt s f d b ke g n F W K=false):=by show _=_;simp[xt,v]
  go_enter func125,ntmps125
  go_wp2_with(go_at_call 92;refine(xB _ _ _ _).mono ?_;rintro e w' ⟨rfl,rfl⟩)
  go_ret
  exact⟨zy c.out.symm,(E _ _).alloc (O _) _⟩
 cases l:inB b 1 50
 ·have c:Hid (xt s f d b ke g n F W K=false):=by show _=_;simp[xt,l]
  go_enter func125,ntmps125
  go_wp2_with(go_at_call 92;refine(xB _ _ _ _).mono ?_;rintro e w' ⟨rfl,rfl⟩)
  go_ret
  exact⟨zy c.out.symm,(E _ _).alloc (O _) _⟩
 cases x:inB ke 0 1000
 ·have c:Hid (xt s f d b ke g n F W K=false):=by show _=_;simp[xt,x]
  go_enter func125,ntmps125
  go_wp2_with(go_at_call 92;refine(xB _ _ _ _).mono ?_;rintro e w' ⟨rfl,rfl⟩)
  go_ret
  exact⟨zy c.out.symm,(E _ _).alloc (O _) _⟩
 cases y:inB g 1 400
 ·have c:Hid (xt s f d b ke g n F W K=false):=by show _=_;simp[xt,y]
  go_enter func125,ntmps125
  go_wp2_with(go_at_call 92;refine(xB _ _ _ _).mono ?_;rintro e w' ⟨rfl,rfl⟩)
  go_ret
  exact⟨zy c.out.symm,(E _ _).alloc (O _) _⟩
 cases m:inB (n:Int) 1 4
 ·have c:Hid (xt s f d b ke g n F W K=false):=by show _=_;simp[xt,m]
  go_enter func125,ntmps125
  go_wp2_with(go_at_call 92;refine(xB _ _ _ _).mono ?_;rintro e w' ⟨rfl,rfl⟩)
  go_ret
  exact⟨zy c.out.symm,(E _ _).alloc (O _) _⟩
 have hn:n<=4:=by rw[qG]at m;omega
 have r:1<=b/\b<=1000:=by rw[qG]at l;omega
 have o:TS (w.alloc (.cells #[I J s,I J f,I J d,I J b,I J ke,I J g,.slice a n cap] 27)) a n F W K:=h.below ((E _ _).alloc (O _) _)
 cases k:kq n (vD n F W K)
 ·have c:Hid (xt s f d b ke g n F W K=false):=by show _=_;simp[xt,k]
  go_enter func125,ntmps125
  go_wp2_with(first|(go_at_call 92;refine(xB _ _ _ _).mono ?_;rintro e w' ⟨rfl,rfl⟩)|(go_at_call 195;refine(YD _ n cap F W K hn _ o).mono ?_;rintro e w' ⟨rfl,j⟩))
  go_ret
  exact⟨zy c.out.symm,((E _ _).alloc (O _) _).trans (j.mono (by simp))⟩
 ·have z:∀i,i<n-> -1<=F i/\F i<n:=fun i q=>by
   have:=(yS _ _).1 k i q;simp only[vD,Bool.and_eq_true,qG]at this;omega
  have A:∀i,i<n->1<=W i/\W i<=1000:=fun i q=>by
   have:=(yS _ _).1 k i q;simp only[vD,Bool.and_eq_true,qG]at this;omega
  have HR:Hid (xt s f d b ke g n F W K=kq n (zaf n b F W)):=by show _=_;simp[xt,t,u,v,l,x,y,m,k]
  go_enter func125,ntmps125
  go_wp2_with(first|(go_at_call 92;refine(xB _ _ _ _).mono ?_;rintro e w' ⟨rfl,rfl⟩)|(go_at_call 195;refine(YD _ n cap F W K hn _ o).mono ?_;rintro e w' ⟨rfl,j⟩;obtain⟨_,B,C,D,G,H,L,M⟩:=(CF.made w 27 (0,0) s f d b ke g a n cap).below j (by simp))|(go_at_call 196;refine(zin s f d b ke g _ n cap F W K hn z r A _ (o.below j)).mono ?_;rintro e N ⟨rfl,p⟩))
  go_ret
  exact⟨zy HR.out.symm,(((E _ _).alloc (O _) _).trans (j.mono (by simp))).trans (p.mono (by have:=j.size;simp at this;omega))⟩
theorem ZD(s c b f ke d:Int)(a:Option Addr)(n cap:Nat)(F W K:Nat->Int)(w:World)(h:TS w a n F W K):
  Calls prog 65 #[.agg #[I J s,I J c,I J b,I J f,I J ke,I J d,.slice a n cap]] w fun e w'=>e=.returned (I J (Zs (xt s c b f ke d n F W K)))/\Below w.1.size w w':=by
 have g:TS (w.alloc (.cells #[I J s,I J c,I J b,I J f,I J ke,I J d,.slice a n cap] 27)) a n F W K:=h.below ((E _ _).alloc (O _) _)
 cases e:xt s c b f ke d n F W K
 all_goals
  go_enter func65,ntmps65
  go_wp2_with(go_at_call 125;refine(QG s c b f ke d _ n cap F W K _ g).mono ?_;rintro e w' ⟨rfl,i⟩)
  go_ret
  exact⟨rfl,((E _ _).alloc (O _) _).trans (i.mono (by simp))⟩
theorem KO(x:Int)(w:World):Calls prog 135 #[I J x] w fun e w'=>e=.returned (I J x)/\w'=w:=by
 go_enter func135,ntmps135
 go_wp2
 go_ret
 exact⟨rfl,rfl⟩
end Go.Proofs.YtndhpgciopcncaaGreatDoor
