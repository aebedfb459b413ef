import Derived.Test.YtndhpgciopcncaaGreatDoorPCnt0
import Derived.Sort.Grow
import Derived.Deep.Draws
import Derived.Test.YtndhpgciopcncaaGreatDoorPSeq5
open Go renaming World → E
open Option renaming some → Q
open Go.Value renaming int → Y
open Go.IntKind renaming i32 → Z
open Nat renaming le_refl → G
open Go renaming Value → P
open Nat renaming le_trans → R
set_option linter.unusedVariables false
set_option maxRecDepth 100000
set_option maxHeartbeats 4000000
open Go.Proofs.Tryz
namespace Go.Proofs.YtndhpgciopcncaaGreatDoor
open Go.ChangeMaps (setBlock)
open Go.RowKit Go.Maps Go.Shelf
def vE(a b:Int):Int:=if a<b then-1 else if b<a then 1 else 0
theorem Xi(a:Int)(w:E):Calls prog 227 #[I a] w fun e w'=>e=.returned (.bool false)/\w'=w:=by
 have h:(a==a)=true:=by simp
 go_enter func227,ntmps227
 go_wp2_with fail
 go_ret
 exact⟨by simp,rfl⟩
theorem kH(a b:Int)(w:E):Calls prog 162 #[I a,I b] w fun e w'=>e=.returned (I (vE a b))/\w'=w:=by
 rcases Int.lt_trichotomy a b with h|h|h
 ·rw[show vE a b= -1 from by simp[vE,h]]
  go_enter func162,ntmps162
  go_wp2_with(go_at_call 227;refine(Xi _ _).mono ?_;rintro e d ⟨rfl,rfl⟩)
  go_ret
  exact⟨rfl,rfl⟩
 ·rw[show vE a b=0 from by simp[vE,h]]
  have c:¬a<b:=by omega
  have f:¬b<a:=by omega
  have g:decide (a<b)=false:=by simpa using c
  have i:decide (b<a)=false:=by simpa using f
  go_enter func162,ntmps162
  go_wp2_with(go_at_call 227;refine(Xi _ _).mono ?_;rintro e d ⟨rfl,rfl⟩)
  go_ret
  exact⟨rfl,rfl⟩
 ·have c:¬a<b:=by omega
  rw[show vE a b=1 from by simp[vE,h,c]]
  have g:decide (a<b)=false:=by simpa using c
  go_enter func162,ntmps162
  go_wp2_with(go_at_call 227;refine(Xi _ _).mono ?_;rintro e d ⟨rfl,rfl⟩)
  go_ret
  exact⟨rfl,rfl⟩
def orL:List Int->Int
 |[]=>0
 |a::r=>if a=0 then orL r else a
theorem ziF{xs:List Int}{k:Nat}(h:∀j,j<k->xs[j]?=Q 0)(c:k<=xs.length):orL xs=orL (xs.drop k):=by
 induction k generalizing xs with
 |zero=>rfl
 |succ k d=>
  cases xs with
  |nil=>simp at c
  |cons a r=>
   have b:=h 0 (by omega)
   simp at b
   subst b
   show(if(0:Int)=0 then orL r else 0)=orL (r.drop k)
   rw[if_pos rfl]
   exact d (fun j e=>by have:=h (j+1) (by omega);simpa using this) (by simpa using c)
theorem ziE(xs:List Int)(n:xs.length<=1000)(w:E)(g:Nat)(c:∀(k:Nat) (x:Int),xs[k]?=Q x->w.cell? (U g k)=Q (I x)):
  Calls prog 163 #[.slice (Q (U g 0)) xs.length xs.length] w fun e w'=>e=.returned (I (orL xs))/\w'=w:=by
 go_enter func163,ntmps163
 go_wp2_with fail
 go_loopw [5,8] (fun _ i wr=>∃k:Nat,k<=xs.length/\i=I k/\wr=w/\∀j,j<k->xs[j]?=Q 0) (fun _ i _=>xs.length-(intOf i).toNat)
 case atStart=>exact⟨0,Nat.zero_le _,rfl,rfl,fun j h=>absurd h (Nat.not_lt_zero _)⟩
 case round=>
  obtain⟨k,t,rfl,rfl,d⟩:=hrel
  by_cases a:k<xs.length
  ·obtain⟨x,l⟩:=ki a
   have r:=c k x l
   have o:(k:Int)<xs.length:=by omega
   have m:=ze l
   have b:=ze d
   have p:=ze c
   clear l d c
   by_cases f:x=0
   ·subst f
    go_wp2_with fail
    go_roundw
    case rel=>
     refine⟨k+1,by omega,by simp,trivial,fun j s=>?_⟩
     by_cases e:j=k
     ·rw[e];exact ud m
     ·exact ud b j (by omega)
    case measure=>simp[intOf];omega
   ·have q:(x==0)=false:=by simpa using f
    go_wp2_with fail
    go_ret
    refine⟨?_,rfl⟩
    rw[ziF (ud b) (Nat.le_of_lt a)]
    obtain⟨n,ex⟩:=List.getElem?_eq_some_iff.1 (ud m)
    rw[List.drop_eq_getElem_cons n,ex]
    show _=Ending.returned (I (if x=0 then _ else x))
    rw[if_neg f]
    rfl
  ·obtain rfl:k=xs.length:=by omega
   have b:=ze d
   clear c d
   go_wp2_with fail
   go_ret
   refine⟨?_,rfl⟩
   rw[ziF (ud b) (G _),List.drop_length]
   rfl
attribute [local go_sem] Oper.semAt_some
def qm(c:Cf)(sr tm:Int)(k:Nat):Sg:=⟨(k:Int),sr,tm/c.wh (k:Int)⟩
def xX(c:Cf)(sr tm:Int)(k:Nat):List Sg:=(List.range k).map (qm c sr tm)
theorem kO(c:Cf)(sr tm:Int)(k:Nat):xX c sr tm (k+1)=xX c sr tm k++[qm c sr tm k]:=by simp[xX,List.range_succ]
theorem Y6(c:Cf)(sr tm:Int)(k:Nat):(xX c sr tm k).length=k:=by simp[xX]
theorem QF{c:Cf}(b:c.ok){sr tm:Int}(d:0<=sr/\sr<4)(a:0<=tm/\tm<=100000){k:Nat}(i:k<c.n):(qm c sr tm k).wf:=by
 obtain⟨f,g⟩:=b.wh (t:=(k:Int)) (by omega) (by omega)
 have hn:=b.n4
 have h:0<=tm/c.wh (k:Int):=Int.ediv_nonneg a.1 (by omega)
 have e:tm/c.wh (k:Int)<=tm:=Int.ediv_le_self _ a.1
 refine⟨?_,?_,?_⟩<;>unfold xg<;>simp only[qm]<;>omega
structure X9(W:E)(q:Nat)(s:Nat)(c:Cf)(tv:P)(lb gb:Nat)(sr tm:Int):Prop where
 b0:W.1[q]?=Q (.cells #[(O s)] 90 (0,0))
 b1:W.1[q+1]?=Q (.cells #[I sr] 3 (0,0))
 b2:W.1[q+2]?=Q (.cells #[I tm] 3 (0,0))
 hd:kY W s c tv lb gb
theorem X9.later{W b:E}{q:Nat}{s:Nat}{c:Cf}{tv:P}{lb gb:Nat}{sr tm:Int}(h:X9 W q s c tv lb gb sr tm)(a:Below W.1.size W b):X9 b q s c tv lb gb sr tm:=
 ⟨(a.block _ (zd h.b0)).trans h.b0,(a.block _ (zd h.b1)).trans h.b1,(a.block _ (zd h.b2)).trans h.b2,h.hd.later a⟩
theorem YT{W a:E}(h:Below W.1.size W a):W.grownBy a none:=⟨h.os,h.tape,h.output,h.size,fun k b _=>h.block k b⟩
theorem zeR(n:Nat)(hn:1<=n)(l q s:Nat)(c:Cf)(M:c.ok)(tv:P)(lb gb:Nat)(sr tm:Int)(y:0<=sr/\sr<4)(z:0<=tm/\tm<=100000)(Kp:E->E->Prop)(m:∀A B,Kp A B->X9 A q s c tv lb gb sr tm->X9 B q s c tv lb gb sr tm)(J V:List WSg->E->Prop)
  (hY:∀d x W,J d W->d.length<c.n->YieldAt Fence.wide (n-1) prog l #[.agg #[I x.1.t,I x.1.sr,I x.1.wn]] W fun e f=>
   (e=.returned (.bool true)/\J (d++[x]) f/\Kp W f)\/(e=.returned (.bool false)/\V (d++[x]) f))
  (W:E) (X:AbidesFrom W.1.size J) (g:X9 W q s c tv lb gb sr tm) (h0:J [] W):
  CallsIn Fence.wide n prog 183 #[.func (.yield l) #[] #[],(O q),(O (q+1)),(O (q+2))] W fun e f=>(∃v,e=.returned v)/\
   ((∃xs,xs=(xX c sr tm c.n).map zkf/\J xs f)\/(∃d,True/\V d f)):=by
 obtain⟨a,cap,rfl⟩:=zS g.hd.trow
 have HR:=ze g
 have HT:=ze (kS c a cap W)
 obtain⟨c0,c1,c2,c3,c4,c5,c6,-,-⟩:=g.hd.cells
 have S:=g.hd.lt
 obtain⟨q0,-⟩:=zc g.b0
 have a0:=M.n4
 have U:=ze X
 have HY:=ze hY
 have C:=ze m
 clear g X hY m
 refine callsIn_of_wp func183 rfl trivial ?_ rfl
 simp only[ntmps183,sZz,Nat.reduceAdd,Nat.reduceSub]
 gi_wp2_with (first|(refine⟨trivial,?_⟩;gi_at_call 179;refine(callsIn_wide.2 (ud HT)).mono ?_;rintro e w1 ⟨rfl,o⟩)|gi_in)
 clear c0 c1 c2 c3 c4 c5 c6 q0 S
 gi_loopw [11] (fun i wr=>∃k:Nat,k<=c.n/\i=I k/\J ((xX c sr tm k).map zkf) wr/\X9 wr q s c (.slice a c.n cap) lb gb sr tm)
  (fun i _=>c.n-(intOf i).toNat)
 case atStart=>exact⟨0,Nat.zero_le _,rfl,ud U _ _ _ none h0 (YT o) (fun r e=>by cases e),(ud HR).later o⟩
 case round=>
  obtain⟨k,hk,rfl,h,b⟩:=hrel
  by_cases u:k<c.n
  ·obtain⟨q0,-⟩:=zc b.b0
   obtain⟨q1,-⟩:=zc b.b1
   obtain⟨q2,-⟩:=zc b.b2
   have w:(k:Int)<c.n:=by omega
   have HK:=ze (zea b.hd M (k:Int) sr tm (by omega) w z)
   have F:=ze b
   have T:=QF M y z u
   clear b
   gi_wp2_with (first|(refine⟨trivial,?_⟩;gi_at_call 122;refine(callsIn_wide.2 (ud HK)).mono ?_;rintro e w2 ⟨rfl,p⟩;have H:=ud U _ _ _ none h (YT p) (fun r e=>by cases e);obtain⟨fn,tmps,assign,body,hy,L⟩:=ud HY _ (zkf (qm c sr tm k)) w2 H (by rw[List.length_map,Y6];exact u);rw[YB T]at hy;dsimp only[qm]at hy)|gi_in)
   refine L.mono ?_
   rintro e W3 (⟨rfl,K,N⟩|⟨rfl,j⟩)
   ·have D:=ze (ud C _ _ N ((ud F).later p))
    gi_wp2
    go_roundw
    case rel=>exact⟨k+1,by omega,by simp,by rw[kO,List.map_append,List.map_singleton];exact K,ud D⟩
    case measure=>simp[intOf];omega
   ·gi_wp2
    refine bodyPost_ret (results_none rfl _ _ _) rfl ?_
    exact⟨⟨_,rfl⟩,.inr ⟨_,trivial,j⟩⟩
  ·obtain rfl:k=c.n:=by omega
   gi_wp2
   go_end0
   exact⟨⟨_,rfl⟩,.inl ⟨_,rfl,h⟩⟩
theorem QJ:∀args w,(callFunc 183 args).run prog w=.ok (.enter 183 args) w:=enters_of func183 (by kernel_rfl) rfl
theorem zch(n:Nat)(hn:1<=n)(q s:Nat)(c:Cf)(k:c.ok)(tv:P)(lb gb:Nat)(sr tm:Int)(a:0<=sr/\sr<4)(d:0<=tm/\tm<=100000)(Kp:E->E->Prop)(b:∀A B,Kp A B->X9 A q s c tv lb gb sr tm->X9 B q s c tv lb gb sr tm)(w:E)(h:X9 w q s c tv lb gb sr tm):
  SeqStopsK Fence.wide n prog 183 #[(O q),(O (q+1)),(O (q+2))] (fun x:WSg=>#[.agg #[I x.1.t,I x.1.sr,I x.1.wn]]) Kp (fun xs=>xs=(xX c sr tm c.n).map zkf) (fun _=>True) c.n w:=
 fun l J e W i g _ j f=>zeR n hn l q s c k tv lb gb sr tm a d Kp b J e j W g (h.later i) f
theorem J5(w:E)(a b c:Obj):(((w.alloc a).alloc b).alloc c).1[w.1.size]?=Q a/\(((w.alloc a).alloc b).alloc c).1[w.1.size+1]?=Q b/\(((w.alloc a).alloc b).alloc c).1[w.1.size+2]?=Q c/\Below w.1.size w (((w.alloc a).alloc b).alloc c)/\(((w.alloc a).alloc b).alloc c).1.size=w.1.size+3:=by
 obtain⟨e,f,g,d⟩:=box2 w a b
 refine⟨(Below.heap_alloc _ _ _ (by rw[d];omega)).trans e,(Below.heap_alloc _ _ _ (by rw[d];omega)).trans f,?_,g.alloc (by rw[d];omega) _,by simp⟩
 have:=zp ((w.alloc a).alloc b) c
 rw[d]at this;exact this
def YJ(w:E)(s:Nat)(sr tm:Int):E:=((w.alloc (.cells #[(O s)] 90)).alloc (.cells #[I sr] 3)).alloc (.cells #[I tm] 3)
theorem YK{w:E}{s:Nat}{c:Cf}{tv:P}{lb gb:Nat}(h:kY w s c tv lb gb)(sr tm:Int):X9 (YJ w s sr tm) w.1.size s c tv lb gb sr tm/\Below w.1.size w (YJ w s sr tm)/\(YJ w s sr tm).1.size=w.1.size+3:=by
 obtain⟨b,d,e,a,f⟩:=J5 w (.cells #[(O s)] 90) (.cells #[I sr] 3) (.cells #[I tm] 3)
 exact⟨⟨b,d,e,h.later a⟩,a,f⟩
theorem YI(s:Nat)(sr tm:Int)(w:E):
  Calls prog 120 #[(O s),I sr,I tm] w fun e w'=>e=.returned (.func (.func 183) #[] #[(O w.1.size),(O (w.1.size+1)),(O (w.1.size+2))])/\w'=YJ w s sr tm:=by
 go_enter func120,ntmps120
 go_wp2_with fail
 go_ret
 exact⟨rfl,rfl⟩
theorem zpx{w:E}{base:Nat}{e:TypeId}{size:Nat}{v:P}{n:Nat}{xs:List P}(h:w.ownsRow base e size v n xs):∀k,v.ownBlock=Q k->k<w.1.size:=fun k c=>by
 obtain⟨a,b⟩:=zH h c;exact zd b
theorem X9.kx{ex:Nat->Prop}{n m:Nat}{A B:E}{q s:Nat}{c:Cf}{tv:P}{lb gb:Nat}{sr tm:Int}(h:X9 A q s c tv lb gb sr tm)(b:KX ex n m A B)(a:∀i,i<=2->q+i<n/\¬ex (q+i))(d:s<n/\¬ex s)(g:∀k,tv.ownBlock=Q k->k<n/\¬ex k):X9 B q s c tv lb gb sr tm:=
 ⟨qk b h.b0 (a 0 (by omega)).1 (a 0 (by omega)).2,qk b h.b1 (a 1 (by omega)).1 (a 1 (by omega)).2,qk b h.b2 (a 2 (by omega)).1 (a 2 (by omega)).2,h.hd.kept b.kept (fun e=>e.elim d.2 (by have:=d.1;omega)) (fun k f e=>by have:=g k f;exact e.elim this.2 (by omega))⟩
theorem zay{ex:Nat->Prop}{n:Nat}(q s:Nat)(c:Cf)(g:c.ok)(tv:P)(lb gb:Nat)(sr tm:Int)(a:0<=sr/\sr<4)(e:0<=tm/\tm<=100000)(w:E)(f:X9 w q s c tv lb gb sr tm)(h:∀i,i<=2->q+i<n/\¬ex (q+i))(j:s<n/\¬ex s)(l:∀k,tv.ownBlock=Q k->k<n/\¬ex k):
  vZ ex n prog 183 #[(O q),(O (q+1)),(O (q+2))] (fun x:WSg=>#[.agg #[I x.1.t,I x.1.sr,I x.1.wn]]) (fun xs=>xs=(xX c sr tm c.n).map zkf) c.n w:=
 fun m _=>Yb.of (zch 6 (by omega) q s c g tv lb gb sr tm a e (KX ex n m) (fun A B b d=>d.kx b h j l) w f)
theorem ZX:∀args w,(callFunc 121 args).run prog w=.ok (.enter 121 args) w:=enters_of func121 (by kernel_rfl) rfl
theorem Ke{c:Cf}(j:c.ok){L:LV}{Gl:List (Sg×Unit)}{sr tm val:Int}(a:0<=sr/\sr<4)(f:0<=tm/\tm<=100000)(d:∀p∈L,p.2.st≠0)(b:∀k:Nat,k<c.n->zD Gl (qm c sr tm k)=none):∀k,k<=c.n->((((xX c sr tm k).map zkf).filter (fun x=>(stG Gl L x.1).st==0)).length:Int)=qO c L ⟨sr,tm,val⟩ k
 |0,_=>by simp[xX,qO]
 |k+1,o=>by
  have m:=Ke j (val:=val) a f d b k (by omega)
  rw[kO,List.map_append,List.filter_append,List.length_append,Int.natCast_add,m]
  simp only[List.map_cons,List.map_nil,List.filter_cons,List.filter_nil,qO]
  rw[YB (QF j a f (by omega))]
  have e:zF c (k:Int) ⟨sr,tm,val⟩=qm c sr tm k:=rfl
  have l:stG Gl L (qm c sr tm k)=stL L (qm c sr tm k):=by unfold stG;rw[b k (by omega)]
  rw[e,l]
  by_cases g:qm c sr tm k∈zn L
  ·obtain⟨v,hv,i⟩:=Ql g
   have h:¬(stL L (qm c sr tm k)).st=0:=by unfold stL;rw[hv];exact d _ i
   simp[h,g]
  ·have h:(stL L (qm c sr tm k)).st=0:=by unfold stL;rw[qR.2 g];rfl
   simp[h,g]
theorem zbf{w:E}{s:Nat}{c:Cf}{tv:P}{lb gb:Nat}{Gl:List (Sg×Unit)}{L:LV}(h:xE w s c tv lb gb Gl L)(t:c.ok)(sr tm val:Int)(b:0<=sr/\sr<4)(l:0<=tm/\tm<=100000)(j:∀p∈L,p.2.st≠0)(g:∀k:Nat,k<c.n->zD Gl (qm c sr tm k)=none):
  Calls prog 62 #[(O s),I sr,I tm] w (Rz w (I (1+2*qO c L ⟨sr,tm,val⟩ c.n))):=by
 have u:=yD c L ⟨sr,tm,val⟩ c.n
 have H:=t.n4
 have v:=Ke t (val:=val) b l j g c.n (G _)
 generalize qO c L ⟨sr,tm,val⟩ c.n=M at*
 obtain⟨D,F⟩:=u
 obtain⟨y,a,q⟩:=YK h.hd sr tm
 have f:=h.foot_lt
 have m:=ze (YI s sr tm w)
 have o:=ze (zhu (fun x:WSg=>x.1) 183 #[(O w.1.size),(O (w.1.size+1)),(O (w.1.size+2))] QJ 121 #[(O s)] #[] ZX (fun x=>(stG Gl L x.1).st==0) (YJ w s sr tm)
  (fun x W B=>QR (h.later (a.trans (B.mono a.size))) x.1 x.2)
  (zay w.1.size s c t tv lb gb sr tm b l (YJ w s sr tm) y (fun i K=>⟨by omega,fun e=>e⟩) ⟨by have:=h.lt;omega,fun e=>e⟩ (fun k C=>⟨by have:=f k (.inr (.inl C));omega,fun e=>e⟩))
  (fun xs e=>by rw[e,List.length_map,Y6];omega))
 have A:=ze v
 have d:=ze a
 clear v y a h j g f q
 go_enter func62,ntmps62
 go_wp2_with fail
 refine(ud m).mono ?_
 rintro e J ⟨rfl,rfl⟩
 go_wp2_with fail
 refine(ud o).mono ?_
 rintro e J ⟨xs,rfl,z,r⟩
 rw[ud A]at z
 subst z
 go_wp2_with fail
 go_ret
 exact⟨rfl,(ud d).trans (r.mono (ud d).size)⟩
end Go.Proofs.YtndhpgciopcncaaGreatDoor
namespace Go.Proofs.YtndhpgciopcncaaGreatDoor.Dr
open Go.RowKit Go.Maps Go.Shelf
structure Below(B:Nat)(w w':E):Prop where
 bel:Go.RowKit.Below B w w'
 more:w.drawn<=w'.drawn
theorem Below.size{B:Nat}{w w':E}(h:Below B w w'):w.1.size<=w'.1.size:=h.bel.size
theorem Below.block{B:Nat}{w w':E}(h:Below B w w'):∀k,k<B->w'.1[k]?=w.1[k]?:=h.bel.block
theorem Below.cell{B:Nat}{w w':E}(h:Below B w w'){p:Addr}(a:p.block<B):w'.cell? p=w.cell? p:=h.bel.cell a
theorem Below.refl(B:Nat)(w:E):Below B w w:=⟨Go.RowKit.Below.refl _ _,G _⟩
theorem Below.trans{B:Nat}{a b c:E}(h:Below B a b)(k:Below B b c):Below B a c:=⟨h.bel.trans k.bel,R h.more k.more⟩
theorem Below.mono{B a:Nat}{w w':E}(h:Below B w w')(b:a<=B):Below a w w':=⟨h.bel.mono b,h.more⟩
theorem Below.drew{B:Nat}{a w:E}(h:Below B a w):Below B a w.drew:=⟨h.bel.drew,R h.more (Nat.le_succ _)⟩
theorem Below.alloc{B:Nat}{a w:E}(h:Below B a w)(b:B<=w.1.size)(o:Obj):Below B a (w.alloc o):=⟨h.bel.alloc b o,h.more⟩
theorem Q5(w:E)(p:Addr)(u:P):(w.setCell p u).drawn=w.drawn:=by
 unfold World.setCell;repeat' split
 all_goals rfl
theorem Below.setCell{B:Nat}{a w:E}(h:Below B a w){p:Addr}(b:B<=p.block)(u:P):Below B a (w.setCell p u):=⟨h.bel.setCell b u,by rw[Q5];exact h.more⟩
theorem Below.heap_alloc(w:E)(o:Obj)(k:Nat)(h:k<w.1.size):(w.alloc o).1[k]?=w.1[k]?:=Go.RowKit.Below.heap_alloc w o k h
theorem Below.heap_setCell(w:E)(a:Addr)(u:P)(k:Nat)(h:k≠a.block):(w.setCell a u).1[k]?=w.1[k]?:=Go.RowKit.Below.heap_setCell w a u k h
theorem box2(w:E)(a b:Obj):((w.alloc a).alloc b).1[w.1.size]?=Q a/\((w.alloc a).alloc b).1[w.1.size+1]?=Q b/\Below w.1.size w ((w.alloc a).alloc b)/\((w.alloc a).alloc b).1.size=w.1.size+2:=by
 obtain⟨c,d,e,f⟩:=YtndhpgciopcncaaGreatDoor.box2 w a b
 exact⟨c,d,⟨e,G _⟩,f⟩
theorem below4{B:Nat}{w:E}{g:Nat}(h:B<=g)(a b c d:P):Below B w ((((w.setCell (U g 0) a).setCell (U g 1) b).setCell (U g 2) c).setCell (U g 3) d):=⟨YtndhpgciopcncaaGreatDoor.below4 h a b c d,by simp only[Q5];exact G _⟩
end Go.Proofs.YtndhpgciopcncaaGreatDoor.Dr
namespace Go.Proofs.YtndhpgciopcncaaGreatDoor
open Go.RowKit Go.Maps Go.Shelf
theorem Dr.Below.lays{w w':E}(h:Dr.Below w.1.size w w'):∃q os,w'=Go.Sort.grow (w.drewN q) os:=by
 obtain⟨⟨a,b,c,e,d⟩,f⟩:=h
 refine⟨w'.drawn-w.drawn,w'.heap.extract w.1.size w'.1.size,?_⟩
 obtain⟨j,l,g,os,k⟩:=w'
 dsimp only at a b c e d f ⊢
 subst a b c
 unfold Go.Sort.grow World.drewN
 dsimp only
 congr 1
 ·apply Array.ext_getElem?
  intro i
  rw[Array.getElem?_append]
  split
  ·rename_i hi;exact d i hi
  ·rename_i hi
   rw[Array.getElem?_extract]
   split
   ·congr 1;omega
   ·rw[Array.getElem?_eq_none];omega
 ·omega
end Go.Proofs.YtndhpgciopcncaaGreatDoor
namespace Go.Proofs.YtndhpgciopcncaaGreatDoor
open Go.RowKit Go.Maps Go.Shelf
attribute [local go_sem] Oper.semAt_some
def CAt(W:E)(b:Nat)(l:List Cl):Prop:=∀j x,l[j]?=Q x->W.cell? (U b (j*4))=Q (I x.cnt)/\W.cell? (U b (j*4+1))=Q (I x.sum)/\W.cell? (U b (j*4+2))=Q (Y Z x.mn)/\W.cell? (U b (j*4+3))=Q (Y Z x.mx)
theorem CAt.below{n b:Nat}{A B:E}{l:List Cl}(h:CAt A b l)(a:Below n A B)(c:b<n):CAt B b l:=fun j x i=>by
 obtain⟨d,e,f,g⟩:=h j x i
 exact⟨(a.cell (p:=(U b _)) c).trans d,(a.cell (p:=(U b _)) c).trans e,(a.cell (p:=(U b _)) c).trans f,(a.cell (p:=(U b _)) c).trans g⟩
theorem zeX(n:Nat)(hn:1<=n)(l u o b cap:Nat)(ad:Option Addr)(zs:List Cl)(N:zs≠[]->ad=Q (U b 0))(hz:zs.length<=1000)(S:b<o)(J w:List Cl->E->Prop)
  (z:∀a x W,J a W->a.length<zs.length->YieldAt Fence.wide (n-1) prog l #[.agg #[I x.cnt,I x.sum,Y Z x.mn,Y Z x.mx]] W fun e f=>
   (e=.returned (.bool true)/\J (a++[x]) f/\Below o W f)\/(e=.returned (.bool false)/\w (a++[x]) f))
  (W:E) (s:o<=W.1.size) (y:AbidesFrom W.1.size J) (L:W.cell? (U u 0)=Q (.slice ad zs.length cap)) (A:CAt W b zs) (K:J [] W):
  CallsIn Fence.wide n prog 238 #[.func (.yield l) #[] #[],(O u)] W fun e f=>(∃v,e=.returned v)/\
   ((∃xs,xs=zs/\J xs f)\/(∃a,True/\w a f)):=by
 have C:=ze A
 have H:=ze z
 have D:=ze y
 clear A z y
 refine callsIn_of_wp func238 rfl trivial ?_ rfl
 simp only[ntmps238,sZz,Nat.reduceAdd,Nat.reduceSub]
 gi_wp2
 gi_loopw [7] (fun i wr=>∃k:Nat,k<=zs.length/\i=I k/\J (zs.take k) wr/\Below o W wr)
  (fun i _=>zs.length-(intOf i).toNat)
 case atStart=>exact⟨0,Nat.zero_le _,rfl,K,Below.refl _ _⟩
 case round=>
  obtain⟨k,X,rfl,j,d⟩:=hrel
  by_cases c:k<zs.length
  ·obtain rfl:=N (fun e=>by rw[e]at c;simp at c)
   obtain⟨x,t⟩:=ki c
   obtain⟨y0,y1,y2,y3⟩:=(ud C).below d S k x t
   have h:=ud D _ _ _ none j (World.grownBy_alloc wr (.cells #[I x.cnt,I x.sum,Y Z x.mn,Y Z x.mx] 115) none) (fun r e=>by cases e)
   obtain⟨fn,tmps,assign,body,hy,M⟩:=ud H _ x _ h (by rw[List.length_take];omega)
   have B:(k:Int)<zs.length:=by omega
   have F:=ze t
   have g:=ze d
   clear t d h
   gi_wp2
   refine M.mono ?_
   rintro e V (⟨rfl,p,q⟩|⟨rfl,m⟩)
   ·gi_wp2
    go_roundw
    case rel=>
     refine⟨k+1,by omega,by simp,?_,?_⟩
     ·obtain⟨T,ex⟩:=List.getElem?_eq_some_iff.1 (ud F)
      rw[List.take_succ_eq_append_getElem T,ex];exact p
     ·exact((ud g).alloc (R s (ud g).size) _).trans q
    case measure=>simp[intOf];omega
   ·gi_wp2
    refine bodyPost_ret (results_none rfl _ _ _) rfl ?_
    exact⟨⟨_,rfl⟩,.inr ⟨_,trivial,m⟩⟩
  ·obtain rfl:k=zs.length:=by omega
   gi_wp2
   go_end0
   exact⟨⟨_,rfl⟩,.inl ⟨_,List.take_length,j⟩⟩
theorem zcl(a:Option Addr)(len cap:Nat)(w:E):
  Calls prog 186 #[.slice a len cap] w fun e w'=>e=.returned (.func (.func 238) #[] #[(O w.1.size)])/\w'=w.alloc (.cells #[.slice a len cap] 208):=by
 go_enter func186,ntmps186
 go_wp2_with fail
 go_ret
 exact⟨rfl,rfl⟩
theorem XI:∀args w,(callFunc 238 args).run prog w=.ok (.enter 238 args) w:=enters_of func238 (by kernel_rfl) rfl
theorem Ja(n:Nat)(hn:1<=n)(a d b cap:Nat)(ad:Option Addr)(zs:List Cl)(o:zs≠[]->ad=Q (U b 0))(r:zs.length<=1000)(h:b<d)(w:E)(c:d<=w.1.size)(e:a<w.1.size)(f:w.cell? (U a 0)=Q (.slice ad zs.length cap))(q:CAt w b zs):
  SeqStopsK Fence.wide n prog 238 #[(O a)] (fun x:Cl=>#[.agg #[I x.cnt,I x.sum,Y Z x.mn,Y Z x.mx]]) (Below d) (fun xs=>xs=zs) (fun _=>True) zs.length w:=
 fun l J i W g k _ m j=>zeX n hn l a d b cap ad zs o r h J i m W (R c g.size) k ((g.cell (p:=(U a 0)) e).trans f) (q.below (g.mono c) h) j
def zeS(a b:Int):Int:=if a<b then-1 else if b<a then 1 else 0
theorem YX(a:Int)(w:E):Calls prog 239 #[Y Z a] w fun e w'=>e=.returned (.bool false)/\w'=w:=by
 have h:(a==a)=true:=by simp
 go_enter func239,ntmps239
 go_wp2_with fail
 go_ret
 exact⟨by simp,rfl⟩
theorem YM(a b:Int)(w:E):Calls prog 188 #[Y Z a,Y Z b] w fun e w'=>e=.returned (I (zeS a b))/\w'=w:=by
 rcases Int.lt_trichotomy a b with h|h|h
 ·rw[show zeS a b= -1 from by simp[zeS,h]]
  go_enter func188,ntmps188
  go_wp2_with(go_at_call 239;refine(YX _ _).mono ?_;rintro e d ⟨rfl,rfl⟩)
  go_ret
  exact⟨rfl,rfl⟩
 ·rw[show zeS a b=0 from by simp[zeS,h]]
  have c:¬a<b:=by omega
  have f:¬b<a:=by omega
  have g:decide (a<b)=false:=by simpa using c
  have i:decide (b<a)=false:=by simpa using f
  go_enter func188,ntmps188
  go_wp2_with(go_at_call 239;refine(YX _ _).mono ?_;rintro e d ⟨rfl,rfl⟩)
  go_ret
  exact⟨rfl,rfl⟩
 ·have c:¬a<b:=by omega
  rw[show zeS a b=1 from by simp[zeS,h,c]]
  have g:decide (a<b)=false:=by simpa using c
  go_enter func188,ntmps188
  go_wp2_with(go_at_call 239;refine(YX _ _).mono ?_;rintro e d ⟨rfl,rfl⟩)
  go_ret
  exact⟨rfl,rfl⟩
def Kg(x y:Cl):Int:=zeS x.mn y.mn
def Kh(x y:Cl):Int:=zeS y.mx x.mx
theorem zib(x y:Cl)(w:E):Calls prog 187 #[.agg #[I x.cnt,I x.sum,Y Z x.mn,Y Z x.mx],.agg #[I y.cnt,I y.sum,Y Z y.mn,Y Z y.mx]] w (Rz w (I (Kg x y))):=by
 go_enter func187,ntmps187
 go_wp2_with(go_at_call 188;refine(YM _ _ _).mono ?_;rintro e a ⟨rfl,rfl⟩)
 go_ret
 exact⟨rfl,(box2 w _ _).2.2.1⟩
theorem zic(x y:Cl)(w:E):Calls prog 189 #[.agg #[I x.cnt,I x.sum,Y Z x.mn,Y Z x.mx],.agg #[I y.cnt,I y.sum,Y Z y.mn,Y Z y.mx]] w (Rz w (I (Kh x y))):=by
 go_enter func189,ntmps189
 go_wp2_with(go_at_call 188;refine(YM _ _ _).mono ?_;rintro e a ⟨rfl,rfl⟩)
 go_ret
 exact⟨rfl,(box2 w _ _).2.2.1⟩
theorem zid(x:Cl)(w:E):Calls prog 191 #[.agg #[I x.cnt,I x.sum,Y Z x.mn,Y Z x.mx]] w (Rz w (I x.cnt)):=by
 go_enter func191,ntmps191
 go_wp2_with fail
 go_ret
 exact⟨rfl,(Below.refl _ _).alloc (G _) _⟩
theorem zie(x:Cl)(w:E):Calls prog 193 #[.agg #[I x.cnt,I x.sum,Y Z x.mn,Y Z x.mx]] w (Rz w (I x.sum)):=by
 go_enter func193,ntmps193
 go_wp2_with fail
 go_ret
 exact⟨rfl,(Below.refl _ _).alloc (G _) _⟩
attribute [local go_sem] Oper.semAt_some
def vS(a:Cl->Cl->Int)(o:Option Cl)(x:Cl):Option Cl:=match o with
 |none=>Q x
 |some f=>if a x f<0 then Q x else Q f
def qQ(a:Cl->Cl->Int)(l:List Cl):Option Cl:=l.foldl (vS a) none
theorem kR(a:Cl->Cl->Int)(l:List Cl)(x:Cl):qQ a (l++[x])=vS a (qQ a l) x:=by simp[qQ]
def qB(x:Cl):Obj:=.cells #[I x.cnt,I x.sum,Y Z x.mn,Y Z x.mx] 115 (0,0)
theorem Vd{w:E}{g:Nat}{a b c d:P}{t:TypeId}{e:Nat×Nat}(h:w.1[g]?=Q (.cells #[a,b,c,d] t e))(x y z u:P):((((w.setCell (U g 0) x).setCell (U g 1) y).setCell (U g 2) z).setCell (U g 3) u).1[g]?=Q (.cells #[x,y,z,u] t e):=by
 have:=xy (i:=3) (xy (i:=2) (xy (i:=1) (xy (i:=0) h x) y) z) u
 exact this
theorem zI{w:E}{g i k:Nat}{v:P}(h:k≠g):(w.setCell (U g i) v).1[k]?=w.1[k]?:=by
 rcases Nat.lt_or_gt_of_ne h with h|h
 ·exact((Below.refl (k+1) w).setCell (p:=(U g i)) (show k+1<=g from h) v).block k (Nat.lt_succ_self _)
 ·have c:zh (fun k=>k=g) w (w.setCell (U g i) v):=zg (zh.refl _ _) rfl
  by_cases d:k<w.1.size
  ·exact c.block k d (by omega)
  ·have a:w.1[k]?=none:=by simp;omega
   have b:(w.setCell (U g i) v).1.size=w.1.size:=by simp[World.setCell]
   rw[a];simp[b];omega
structure FI(ov:P)(ot:TypeId)(w:E)(o:Option Cl)(W:E):Prop where
 i1:W.1[w.1.size]?=Q (.cells #[ov] ot (0,0))
 i2:W.1[w.1.size+1]?=Q (qB qt)
 i3:W.1[w.1.size+2]?=Q (qB (o.getD qt))
 i4:W.1[w.1.size+3]?=Q (.cells #[.bool o.isSome] 4 (0,0))
 i5:Below w.1.size w W
theorem FI.own{g:P}{f:TypeId}{w A B:E}{o:Option Cl}{d:Option Nat}{N:Nat}(h:w.1.size<=N)(a:FI g f w o A)(b:A.grownBy B d)(c:∀r,d=Q r->N<=r/\∃o:Obj,A.1[r]?=Q o/\o.isCells=false):FI g f w o B:=
 ⟨zu a.i1 b (fun r e=>(c r e).2),zu a.i2 b (fun r e=>(c r e).2),zu a.i3 b (fun r e=>(c r e).2),zu a.i4 b (fun r e=>(c r e).2),a.i5.grown b a.i5.size (fun k e=>by have:=(c k e).1;omega)⟩
theorem FI.later{c:P}{b:TypeId}{w A B:E}{o:Option Cl}(h:FI c b w o A)(a:Below A.1.size A B):FI c b w o B:=
 ⟨(a.block _ (zd h.i1)).trans h.i1,(a.block _ (zd h.i2)).trans h.i2,(a.block _ (zd h.i3)).trans h.i3,(a.block _ (zd h.i4)).trans h.i4,h.i5.trans (a.mono h.i5.size)⟩
theorem Vq{e:P}{d:TypeId}{w W X:E}{o c:Option Cl}{Kp:E->E->Prop}{N:Nat}(h:FI e d w o W)(f:c=o)(b:jV w.1.size Kp)(a:Below W.1.size W X):KeepsFrom N W X/\Kp W X/\FI e d w c X:=by
 subst f
 exact⟨(yw a).from _,b.of _ _ (yw a) (a.mono h.i5.size),h.later a⟩
theorem XK{m:P}{l:TypeId}{w W X:E}{o j:Option Cl}{x:Cl}{Kp:E->E->Prop}{N:Nat}(h:FI m l w o W)(r:j=Q x)(e:jV w.1.size Kp)(d:Below W.1.size W X):
  KeepsFrom N W (((((X.setCell (U (w.1.size+2) 0) (I x.cnt)).setCell (U (w.1.size+2) 1) (I x.sum)).setCell (U (w.1.size+2) 2) (Y Z x.mn)).setCell (U (w.1.size+2) 3) (Y Z x.mx)).setCell (U (w.1.size+3) 0) (.bool true))/\Kp W (((((X.setCell (U (w.1.size+2) 0) (I x.cnt)).setCell (U (w.1.size+2) 1) (I x.sum)).setCell (U (w.1.size+2) 2) (Y Z x.mn)).setCell (U (w.1.size+2) 3) (Y Z x.mx)).setCell (U (w.1.size+3) 0) (.bool true))/\FI m l w j (((((X.setCell (U (w.1.size+2) 0) (I x.cnt)).setCell (U (w.1.size+2) 1) (I x.sum)).setCell (U (w.1.size+2) 2) (Y Z x.mn)).setCell (U (w.1.size+2) 3) (Y Z x.mx)).setCell (U (w.1.size+3) 0) (.bool true)):=by
 subst r
 have b:=h.later d
 have f:KeepsOthers W (((((X.setCell (U (w.1.size+2) 0) (I x.cnt)).setCell (U (w.1.size+2) 1) (I x.sum)).setCell (U (w.1.size+2) 2) (Y Z x.mn)).setCell (U (w.1.size+2) 3) (Y Z x.mx)).setCell (U (w.1.size+3) 0) (.bool true)):=(((((yw d).trans (KeepsOthers.setCell _ _ _)).trans (KeepsOthers.setCell _ _ _)).trans (KeepsOthers.setCell _ _ _)).trans (KeepsOthers.setCell _ _ _)).trans (KeepsOthers.setCell _ _ _)
 have g:Below w.1.size W (((((X.setCell (U (w.1.size+2) 0) (I x.cnt)).setCell (U (w.1.size+2) 1) (I x.sum)).setCell (U (w.1.size+2) 2) (Y Z x.mn)).setCell (U (w.1.size+2) 3) (Y Z x.mx)).setCell (U (w.1.size+3) 0) (.bool true)):=(((((d.mono h.i5.size).setCell (p:=(U (w.1.size+2) 0)) (show w.1.size<=w.1.size+2 by omega) _).setCell (p:=(U (w.1.size+2) 1)) (show w.1.size<=w.1.size+2 by omega) _).setCell (p:=(U (w.1.size+2) 2)) (show w.1.size<=w.1.size+2 by omega) _).setCell (p:=(U (w.1.size+2) 3)) (show w.1.size<=w.1.size+2 by omega) _).setCell (p:=(U (w.1.size+3) 0)) (show w.1.size<=w.1.size+3 by omega) _
 have n:=Vd b.i3 (I x.cnt) (I x.sum) (Y Z x.mn) (Y Z x.mx)
 have a:∀k,k≠w.1.size+2->((((X.setCell (U (w.1.size+2) 0) (I x.cnt)).setCell (U (w.1.size+2) 1) (I x.sum)).setCell (U (w.1.size+2) 2) (Y Z x.mn)).setCell (U (w.1.size+2) 3) (Y Z x.mx)).1[k]?=X.1[k]?:=fun k c=>by
  rw[zI c,zI c,zI c,zI c]
 have q:=xy (i:=0) ((a (w.1.size+3) (by omega)).trans b.i4) (.bool true)
 refine⟨f.from _,e.of _ _ f g,⟨?_,?_,?_,q,h.i5.trans g⟩⟩
 ·rw[zI (by omega),a _ (by omega)];exact b.i1
 ·rw[zI (by omega),a _ (by omega)];exact b.i2
 ·rw[zI (by omega)];exact n
theorem zfb(gf:Nat)(lb:Array P)(eg:∀args w,(callFunc gf args).run prog w=.ok (.enter gf args) w){Kp:E->E->Prop}{S Sp:List Cl->Prop}{N:Nat}(w:E)(a5:jV w.1.size Kp)
  (M:SeqStopsK Fence.wide 6 prog gf lb (fun x:Cl=>#[.agg #[I x.cnt,I x.sum,Y Z x.mn,Y Z x.mx]]) Kp S Sp N w):
  Calls prog 185 #[.func (.func gf) #[] lb,.func (.func 187) #[] #[]] w fun e w'=>∃xs,S xs/\e=.returned (.tuple #[clV ((qQ Kg xs).getD qt),.bool (qQ Kg xs).isSome])/\Below w.1.size w w':=by
 have a0:=ze M
 have q:=ze a5
 have a9:=ze eg
 obtain⟨b1,b2,b3,L,k⟩:=J5 w (.cells #[.func (.func 187) #[] #[]] 268) (qB qt) (qB qt)
 have y:Hid (FI (.func (.func 187) #[] #[]) 268 w none ((((w.alloc (.cells #[.func (.func 187) #[] #[]] 268)).alloc (qB qt)).alloc (qB qt)).alloc zgC)):=
  ⟨(Below.heap_alloc _ _ _ (by rw[k];omega)).trans b1,(Below.heap_alloc _ _ _ (by rw[k];omega)).trans b2,(Below.heap_alloc _ _ _ (by rw[k];omega)).trans b3,by have:=zp (((w.alloc (.cells #[.func (.func 187) #[] #[]] 268)).alloc (qB qt)).alloc (qB qt)) zgC;rw[k]at this;exact this,L.alloc (by rw[k];omega) _⟩
 have BZ:Hid (((((w.alloc (.cells #[.func (.func 187) #[] #[]] 268)).alloc (qB qt)).alloc (qB qt)).alloc zgC).1.size=w.1.size+4):=by show _=_;rw[zN,k]
 clear M a5 eg b1 b2 b3 L k
 unfold qB qt at y BZ
 dsimp only at y BZ
 refine(callsIn_wide (n:=7)).1 ?_
 refine callsIn_of_wp_marks func185 rfl trivial ?_ rfl
 simp only[ntmps185,sZz,Nat.reduceAdd,Nat.reduceSub]
 gi_wp2
 obtain⟨W0,a3⟩:∃W0,((((w.alloc (.cells #[.func (.func 187) #[] #[]] 268)).alloc Qd).alloc Qd).alloc zgC)=W0:=⟨_,rfl⟩
 rw[a3]at y BZ ⊢
 clear a3
 have hz:W0.1.size=w.1.size+4:=ud BZ
 refine wpIn_rangeFunc_ownH (F:=Fence.wide) (n:=7) rfl (by omega) (gf:=gf) (lb:=lb) rfl trivial (ud a9) (ud a0) (ud q).t (fun W l o o' hl=>(ud q).b W l o o' (by omega)) (ud y).i5 (fun _=>rfl)
  (fun u W=>FI (.func (.func 187) #[] #[]) 268 w (qQ Kg u) W)
  (fun _ _ _=>False)
  (fun s A B ad hs X hr=>FI.own (by omega) hs X hr)
  (fun _ _ _ _ _ hs _ _=>hs)
  (ud y)
  (fun x a' W=>∃v,w.1.size+4<=v/\W.1[v]?=Q (.cells #[I x.cnt,I x.sum,Y Z x.mn,Y Z x.mx] 115 (0,0))/\a'={tmps:=#[.func (.func gf) #[] lb,.func (.func 187) #[] #[],undef,(O w.1.size),(O (w.1.size+1)),.bool false,(O (w.1.size+2)),(O (w.1.size+3)),(O v),.func (.func gf) #[] lb,.agg #[I x.cnt,I x.sum,Y Z x.mn,Y Z x.mx],undef,undef,undef,undef,undef,undef,undef,undef,undef,undef,undef,undef],defers:=[]})
  (fun x a' s A B ad hs X hr=>by
   obtain⟨v,h1,h2,h3⟩:=hs
   exact⟨v,h1,zu h2 X (fun r e=>(hr r e).2),h3⟩) ?assign ?body ?done ?stop
 case assign=>
  rintro l u x W K d hK
  have a7:=d.i5.size
  have ah:=zd d.i4
  have HK:=ze hK
  have m:=ze d
  clear hK d
  gi_wp2
  refine ud HK _ _ ((KeepsOthers.alloc _ _).from _) ((ud q).of _ _ (KeepsOthers.alloc _ _) ((Below.refl _ W).alloc a7 _)) ((ud m).later ((Below.refl _ _).alloc (G _) _)) ⟨W.1.size,by omega,zp _ _,rfl⟩
 case body=>
  rintro l u x a' W hl ⟨r,hr⟩ d ⟨v,ag,hx,rfl⟩ ai
  have a7:=d.i5.size
  have H:=zd hx
  have ac:=zd d.i4
  obtain⟨c1,-⟩:=zc d.i1
  obtain⟨x0,x1,x2,x3,-⟩:=zc hx
  have ae:¬v=w.1.size+2:=by omega
  have af:¬v=w.1.size+3:=by omega
  have m:=ze d
  have HX:=ze hx
  have i:=kR Kg u x
  cases hF:qQ Kg u with
  |none=>
   rw[hF]at d m i
   obtain⟨g0,g1,g2,g3,-⟩:=zc d.i3
   have a1:=fun j=>zv d.i3 j
   have ab:=fun j=>zv d.i4 j
   obtain⟨c4,-⟩:=zc d.i4
   have z:=ze i
   clear d hx hF i
   gi_wp2
   refine⟨fun _ h=>(by cases h),?_⟩
   gi_wp2
   all_goals(try go_bits)
   exact XK (ud m) (ud z) (ud q) (Below.refl _ _)
  |some f=>
   rw[hF]at d m i
   obtain⟨g0,g1,g2,g3,-⟩:=zc d.i3
   obtain⟨c4,-⟩:=zc d.i4
   have HC:=ze (zib x f W)
   have J:=zd d.i3
   clear d hx hF
   by_cases ho:Kg x f<0
   ·have z:=ze (i.trans (show vS Kg (Q f) x=Q x by simp[vS,ho]))
    clear i
    generalize Kg x f=O9 at*
    gi_wp2_with (first|(refine⟨trivial,?_⟩;gi_at_call 187;refine(CallsIn.inRound l (callsIn_wide.2 (ud HC))).mono ?_;rintro e w' ⟨rfl,a⟩;have d0:=(a.cell (p:=(U v 0)) H).trans x0;have d1:=(a.cell (p:=(U v 1)) H).trans x1;have d2:=(a.cell (p:=(U v 2)) H).trans x2;have d3:=(a.cell (p:=(U v 3)) H).trans x3;have e0:=(a.cell (p:=(U (w.1.size+2) 0)) J).trans g0;have e1:=(a.cell (p:=(U (w.1.size+2) 1)) J).trans g1;have e2:=(a.cell (p:=(U (w.1.size+2) 2)) J).trans g2;have e3:=(a.cell (p:=(U (w.1.size+2) 3)) J).trans g3;have e4:=(a.cell (p:=(U (w.1.size+3) 0)) ac).trans c4;have a1:=fun j=>zv ((ud m).later a).i3 j;have ab:=fun j=>zv ((ud m).later a).i4 j;have T:=ze a;clear a)|gi_in)
    all_goals(try go_bits)
    exact XK (ud m) (ud z) (ud q) (ud T)
   ·have z:=ze (i.trans (show vS Kg (Q f) x=Q f by simp[vS,ho]))
    have aj:decide (Kg x f<0)=false:=by simpa using ho
    clear i
    generalize Kg x f=O9 at*
    gi_wp2_with (first|(refine⟨trivial,?_⟩;gi_at_call 187;refine(CallsIn.inRound l (callsIn_wide.2 (ud HC))).mono ?_;rintro e w' ⟨rfl,a⟩;have T:=ze a;clear a)|gi_in)
    all_goals(try go_bits)
    exact Vq (ud m) (ud z) (ud q) (ud T)
 case done=>
  rintro D xs W hD hS d hK
  have m:=ze d
  have HK:=ze hK
  have HS:=ze hS
  obtain⟨fo,V⟩:∃fo,qQ Kg xs=fo:=⟨_,rfl⟩
  rw[V]at d m
  obtain⟨g0,g1,g2,g3,-⟩:=zc d.i3
  obtain⟨c4,-⟩:=zc d.i4
  obtain⟨r0,r1,r2,r3,-⟩:=zc d.i2
  have a1:=fun j=>zv d.i2 j
  have aa:=ze V
  clear d hK hS V
  obtain⟨g,X⟩:∃g,fo.getD qt=g:=⟨_,rfl⟩
  obtain⟨bb,hbb⟩:∃bb,fo.isSome=bb:=⟨_,rfl⟩
  rw[X]at g0 g1 g2 g3
  rw[hbb]at c4
  have HG:=ze X
  have a8:=ze hbb
  clear X hbb
  gi_wp2
  gi_region
  gi_wp2
  have C:D≠w.1.size+1:=by omega
  have a6:=zjl (ud m).i2 (I g.cnt) (I g.sum) (Y Z g.mn) (Y Z g.mx)
  have a2:(((((W.setCell (U (w.1.size+1) 0) (I g.cnt)).setCell (U (w.1.size+1) 1) (I g.sum)).setCell (U (w.1.size+1) 2) (Y Z g.mn)).setCell (U (w.1.size+1) 3) (Y Z g.mx)).drew).1[D]?=Q (.deferred (Q [])):=by
   show((((W.setCell (U (w.1.size+1) 0) (I g.cnt)).setCell (U (w.1.size+1) 1) (I g.sum)).setCell (U (w.1.size+1) 2) (Y Z g.mn)).setCell (U (w.1.size+1) 3) (Y Z g.mx)).1[D]?=_
   rw[zI C,zI C,zI C,zI C];exact ud HK
  have a4:=((ud m).i5).trans (YF (w:=W) (B:=w.1.size) (g:=w.1.size+1) (Nat.le_succ _) (I g.cnt) (I g.sum) (Y Z g.mn) (Y Z g.mx))
  refine⟨by simp,.inl ⟨_,_,rfl,run_takeDeferred a2,?_⟩⟩
  refine⟨_,zZ results185 _ _ (w.1.size+1) _ _ _ _ _ rfl rfl ((World.putObj_heap_other (fun e=>C e.symm)).trans a6) underlying115 rfl (by kernel_rfl),xs,ud HS,?_,xu a4 (G _) (by omega) a2 _⟩
  rw[ud aa,ud HG,ud a8];rfl
 case stop=>
  rintro D c u W _ _ h _
  exact h.elim
theorem zfc(gf:Nat)(lb:Array P)(eg:∀args w,(callFunc gf args).run prog w=.ok (.enter gf args) w){Kp:E->E->Prop}{S Sp:List Cl->Prop}{N:Nat}(w:E)(a5:jV w.1.size Kp)
  (M:SeqStopsK Fence.wide 6 prog gf lb (fun x:Cl=>#[.agg #[I x.cnt,I x.sum,Y Z x.mn,Y Z x.mx]]) Kp S Sp N w):
  Calls prog 185 #[.func (.func gf) #[] lb,.func (.func 189) #[] #[]] w fun e w'=>∃xs,S xs/\e=.returned (.tuple #[clV ((qQ Kh xs).getD qt),.bool (qQ Kh xs).isSome])/\Below w.1.size w w':=by
 have a0:=ze M
 have q:=ze a5
 have a9:=ze eg
 obtain⟨b1,b2,b3,L,k⟩:=J5 w (.cells #[.func (.func 189) #[] #[]] 268) (qB qt) (qB qt)
 have y:Hid (FI (.func (.func 189) #[] #[]) 268 w none ((((w.alloc (.cells #[.func (.func 189) #[] #[]] 268)).alloc (qB qt)).alloc (qB qt)).alloc zgC)):=
  ⟨(Below.heap_alloc _ _ _ (by rw[k];omega)).trans b1,(Below.heap_alloc _ _ _ (by rw[k];omega)).trans b2,(Below.heap_alloc _ _ _ (by rw[k];omega)).trans b3,by have:=zp (((w.alloc (.cells #[.func (.func 189) #[] #[]] 268)).alloc (qB qt)).alloc (qB qt)) zgC;rw[k]at this;exact this,L.alloc (by rw[k];omega) _⟩
 have BZ:Hid (((((w.alloc (.cells #[.func (.func 189) #[] #[]] 268)).alloc (qB qt)).alloc (qB qt)).alloc zgC).1.size=w.1.size+4):=by show _=_;rw[zN,k]
 clear M a5 eg b1 b2 b3 L k
 unfold qB qt at y BZ
 dsimp only at y BZ
 refine(callsIn_wide (n:=7)).1 ?_
 refine callsIn_of_wp_marks func185 rfl trivial ?_ rfl
 simp only[ntmps185,sZz,Nat.reduceAdd,Nat.reduceSub]
 gi_wp2
 obtain⟨W0,a3⟩:∃W0,((((w.alloc (.cells #[.func (.func 189) #[] #[]] 268)).alloc Qd).alloc Qd).alloc zgC)=W0:=⟨_,rfl⟩
 rw[a3]at y BZ ⊢
 clear a3
 have hz:W0.1.size=w.1.size+4:=ud BZ
 refine wpIn_rangeFunc_ownH (F:=Fence.wide) (n:=7) rfl (by omega) (gf:=gf) (lb:=lb) rfl trivial (ud a9) (ud a0) (ud q).t (fun W l o o' hl=>(ud q).b W l o o' (by omega)) (ud y).i5 (fun _=>rfl)
  (fun u W=>FI (.func (.func 189) #[] #[]) 268 w (qQ Kh u) W)
  (fun _ _ _=>False)
  (fun s A B ad hs X hr=>FI.own (by omega) hs X hr)
  (fun _ _ _ _ _ hs _ _=>hs)
  (ud y)
  (fun x a' W=>∃v,w.1.size+4<=v/\W.1[v]?=Q (.cells #[I x.cnt,I x.sum,Y Z x.mn,Y Z x.mx] 115 (0,0))/\a'={tmps:=#[.func (.func gf) #[] lb,.func (.func 189) #[] #[],undef,(O w.1.size),(O (w.1.size+1)),.bool false,(O (w.1.size+2)),(O (w.1.size+3)),(O v),.func (.func gf) #[] lb,.agg #[I x.cnt,I x.sum,Y Z x.mn,Y Z x.mx],undef,undef,undef,undef,undef,undef,undef,undef,undef,undef,undef,undef],defers:=[]})
  (fun x a' s A B ad hs X hr=>by
   obtain⟨v,h1,h2,h3⟩:=hs
   exact⟨v,h1,zu h2 X (fun r e=>(hr r e).2),h3⟩) ?assign ?body ?done ?stop
 case assign=>
  rintro l u x W K d hK
  have a7:=d.i5.size
  have ah:=zd d.i4
  have HK:=ze hK
  have m:=ze d
  clear hK d
  gi_wp2
  refine ud HK _ _ ((KeepsOthers.alloc _ _).from _) ((ud q).of _ _ (KeepsOthers.alloc _ _) ((Below.refl _ W).alloc a7 _)) ((ud m).later ((Below.refl _ _).alloc (G _) _)) ⟨W.1.size,by omega,zp _ _,rfl⟩
 case body=>
  rintro l u x a' W hl ⟨r,hr⟩ d ⟨v,ag,hx,rfl⟩ ai
  have a7:=d.i5.size
  have H:=zd hx
  have ac:=zd d.i4
  obtain⟨c1,-⟩:=zc d.i1
  obtain⟨x0,x1,x2,x3,-⟩:=zc hx
  have ae:¬v=w.1.size+2:=by omega
  have af:¬v=w.1.size+3:=by omega
  have m:=ze d
  have HX:=ze hx
  have i:=kR Kh u x
  cases hF:qQ Kh u with
  |none=>
   rw[hF]at d m i
   obtain⟨g0,g1,g2,g3,-⟩:=zc d.i3
   have a1:=fun j=>zv d.i3 j
   have ab:=fun j=>zv d.i4 j
   obtain⟨c4,-⟩:=zc d.i4
   have z:=ze i
   clear d hx hF i
   gi_wp2
   refine⟨fun _ h=>(by cases h),?_⟩
   gi_wp2
   all_goals(try go_bits)
   exact XK (ud m) (ud z) (ud q) (Below.refl _ _)
  |some f=>
   rw[hF]at d m i
   obtain⟨g0,g1,g2,g3,-⟩:=zc d.i3
   obtain⟨c4,-⟩:=zc d.i4
   have HC:=ze (zic x f W)
   have J:=zd d.i3
   clear d hx hF
   by_cases ho:Kh x f<0
   ·have z:=ze (i.trans (show vS Kh (Q f) x=Q x by simp[vS,ho]))
    clear i
    generalize Kh x f=O9 at*
    gi_wp2_with (first|(refine⟨trivial,?_⟩;gi_at_call 189;refine(CallsIn.inRound l (callsIn_wide.2 (ud HC))).mono ?_;rintro e w' ⟨rfl,a⟩;have d0:=(a.cell (p:=(U v 0)) H).trans x0;have d1:=(a.cell (p:=(U v 1)) H).trans x1;have d2:=(a.cell (p:=(U v 2)) H).trans x2;have d3:=(a.cell (p:=(U v 3)) H).trans x3;have e0:=(a.cell (p:=(U (w.1.size+2) 0)) J).trans g0;have e1:=(a.cell (p:=(U (w.1.size+2) 1)) J).trans g1;have e2:=(a.cell (p:=(U (w.1.size+2) 2)) J).trans g2;have e3:=(a.cell (p:=(U (w.1.size+2) 3)) J).trans g3;have e4:=(a.cell (p:=(U (w.1.size+3) 0)) ac).trans c4;have a1:=fun j=>zv ((ud m).later a).i3 j;have ab:=fun j=>zv ((ud m).later a).i4 j;have T:=ze a;clear a)|gi_in)
    all_goals(try go_bits)
    exact XK (ud m) (ud z) (ud q) (ud T)
   ·have z:=ze (i.trans (show vS Kh (Q f) x=Q f by simp[vS,ho]))
    have aj:decide (Kh x f<0)=false:=by simpa using ho
    clear i
    generalize Kh x f=O9 at*
    gi_wp2_with (first|(refine⟨trivial,?_⟩;gi_at_call 189;refine(CallsIn.inRound l (callsIn_wide.2 (ud HC))).mono ?_;rintro e w' ⟨rfl,a⟩;have T:=ze a;clear a)|gi_in)
    all_goals(try go_bits)
    exact Vq (ud m) (ud z) (ud q) (ud T)
 case done=>
  rintro D xs W hD hS d hK
  have m:=ze d
  have HK:=ze hK
  have HS:=ze hS
  obtain⟨fo,V⟩:∃fo,qQ Kh xs=fo:=⟨_,rfl⟩
  rw[V]at d m
  obtain⟨g0,g1,g2,g3,-⟩:=zc d.i3
  obtain⟨c4,-⟩:=zc d.i4
  obtain⟨r0,r1,r2,r3,-⟩:=zc d.i2
  have a1:=fun j=>zv d.i2 j
  have aa:=ze V
  clear d hK hS V
  obtain⟨g,X⟩:∃g,fo.getD qt=g:=⟨_,rfl⟩
  obtain⟨bb,hbb⟩:∃bb,fo.isSome=bb:=⟨_,rfl⟩
  rw[X]at g0 g1 g2 g3
  rw[hbb]at c4
  have HG:=ze X
  have a8:=ze hbb
  clear X hbb
  gi_wp2
  gi_region
  gi_wp2
  have C:D≠w.1.size+1:=by omega
  have a6:=zjl (ud m).i2 (I g.cnt) (I g.sum) (Y Z g.mn) (Y Z g.mx)
  have a2:(((((W.setCell (U (w.1.size+1) 0) (I g.cnt)).setCell (U (w.1.size+1) 1) (I g.sum)).setCell (U (w.1.size+1) 2) (Y Z g.mn)).setCell (U (w.1.size+1) 3) (Y Z g.mx)).drew).1[D]?=Q (.deferred (Q [])):=by
   show((((W.setCell (U (w.1.size+1) 0) (I g.cnt)).setCell (U (w.1.size+1) 1) (I g.sum)).setCell (U (w.1.size+1) 2) (Y Z g.mn)).setCell (U (w.1.size+1) 3) (Y Z g.mx)).1[D]?=_
   rw[zI C,zI C,zI C,zI C];exact ud HK
  have a4:=((ud m).i5).trans (YF (w:=W) (B:=w.1.size) (g:=w.1.size+1) (Nat.le_succ _) (I g.cnt) (I g.sum) (Y Z g.mn) (Y Z g.mx))
  refine⟨by simp,.inl ⟨_,_,rfl,run_takeDeferred a2,?_⟩⟩
  refine⟨_,zZ results185 _ _ (w.1.size+1) _ _ _ _ _ rfl rfl ((World.putObj_heap_other (fun e=>C e.symm)).trans a6) underlying115 rfl (by kernel_rfl),xs,ud HS,?_,xu a4 (G _) (by omega) a2 _⟩
  rw[ud aa,ud HG,ud a8];rfl
 case stop=>
  rintro D c u W _ _ h _
  exact h.elim
end Go.Proofs.YtndhpgciopcncaaGreatDoor
