import Derived.Test.YtndhpgciopcncaaGreatDoorYCnt0
import Derived.Sort.Grow
import Derived.Deep.Draws
import Derived.Test.YtndhpgciopcncaaGreatDoorYSeq5
open Option renaming none → I
open Go.Value renaming int → E
open Option renaming some → Q
open Go renaming World → U
open Go.IntKind renaming i64 → Y
open Go.IntKind renaming i32 → Z
open Nat renaming le_refl → G
open Go renaming Value → P
open Nat renaming le_trans → R
set_option linter.unusedVariables false
set_option maxRecDepth 100000
set_option maxHeartbeats 4000000
open Go.Proofs.Tryz
namespace Go.Proofs.YtndhpgciopcncaaGreatDoor
open Go.ChangeMaps (setBlock)
open Go.RowKit Go.Maps Go.Shelf
def jk(a b:Int):Int:=if a<b then-1 else if b<a then 1 else 0
theorem Z5(a:Int)(w:U):Calls prog 227 #[E Y a] w fun e w'=>e=.returned (.bool false)/\w'=w:=by
 have h:(a==a)=true:=by simp
 go_enter func227,ntmps227
 go_wp2_with fail
 go_ret
 exact⟨by simp,rfl⟩
theorem KA(a b:Int)(w:U):Calls prog 162 #[E Y a,E Y b] w fun e w'=>e=.returned (E Y (jk a b))/\w'=w:=by
 rcases Int.lt_trichotomy a b with h|h|h
 ·rw[show jk a b= -1 from by simp[jk,h]]
  go_enter func162,ntmps162
  go_wp2_with(go_at_call 227;refine(Z5 _ _).mono ?_;rintro e d ⟨rfl,rfl⟩)
  go_ret
  exact⟨rfl,rfl⟩
 ·rw[show jk a b=0 from by simp[jk,h]]
  have c:¬a<b:=by omega
  have f:¬b<a:=by omega
  have g:decide (a<b)=false:=by simpa using c
  have i:decide (b<a)=false:=by simpa using f
  go_enter func162,ntmps162
  go_wp2_with(go_at_call 227;refine(Z5 _ _).mono ?_;rintro e d ⟨rfl,rfl⟩)
  go_ret
  exact⟨rfl,rfl⟩
 ·have c:¬a<b:=by omega
  rw[show jk a b=1 from by simp[jk,h,c]]
  have g:decide (a<b)=false:=by simpa using c
  go_enter func162,ntmps162
  go_wp2_with(go_at_call 227;refine(Z5 _ _).mono ?_;rintro e d ⟨rfl,rfl⟩)
  go_ret
  exact⟨rfl,rfl⟩
def orL:List Int->Int
 |[]=>0
 |a::r=>if a=0 then orL r else a
theorem zeM{xs:List Int}{k:Nat}(h:∀j,j<k->xs[j]?=Q 0)(c:k<=xs.length):orL xs=orL (xs.drop k):=by
 induction k generalizing xs with
 |zero=>rfl
 |succ k d=>
  cases xs with
  |nil=>simp at c
  |cons a r=>
   have b:=h 0 (by omega)
   simp at b
   subst b
   show(if(0:Int)=0 then orL r else 0)=orL (r.drop k)
   rw[if_pos rfl]
   exact d (fun j e=>by have:=h (j+1) (by omega);simpa using this) (by simpa using c)
theorem zkb(xs:List Int)(n:xs.length<=1000)(w:U)(g:Nat)(c:∀(k:Nat) (x:Int),xs[k]?=Q x->w.cell? ⟨g,k,I⟩=Q (E Y x)):
  Calls prog 163 #[.slice (Q ⟨g,0,I⟩) xs.length xs.length] w fun e w'=>e=.returned (E Y (orL xs))/\w'=w:=by
 go_enter func163,ntmps163
 go_wp2_with fail
 go_loopw [5,8] (fun _ i wr=>∃k:Nat,k<=xs.length/\i=E Y k/\wr=w/\∀j,j<k->xs[j]?=Q 0) (fun _ i _=>xs.length-(intOf i).toNat)
 case atStart=>exact⟨0,Nat.zero_le _,rfl,rfl,fun j h=>absurd h (Nat.not_lt_zero _)⟩
 case round=>
  obtain⟨k,t,rfl,rfl,d⟩:=hrel
  by_cases a:k<xs.length
  ·obtain⟨x,l⟩:=xz a
   have r:=c k x l
   have o:(k:Int)<xs.length:=by omega
   have m:=zd l
   have b:=zd d
   have p:=zd c
   clear l d c
   by_cases f:x=0
   ·subst f
    go_wp2_with fail
    go_roundw
    case rel=>
     refine⟨k+1,by omega,by simp,trivial,fun j s=>?_⟩
     by_cases e:j=k
     ·rw[e];exact ud m
     ·exact ud b j (by omega)
    case measure=>simp[intOf];omega
   ·have q:(x==0)=false:=by simpa using f
    go_wp2_with fail
    go_ret
    refine⟨?_,rfl⟩
    rw[zeM (ud b) (Nat.le_of_lt a)]
    obtain⟨n,ex⟩:=List.getElem?_eq_some_iff.1 (ud m)
    rw[List.drop_eq_getElem_cons n,ex]
    show _=Ending.returned (E Y (if x=0 then _ else x))
    rw[if_neg f]
    rfl
  ·obtain rfl:k=xs.length:=by omega
   have b:=zd d
   clear c d
   go_wp2_with fail
   go_ret
   refine⟨?_,rfl⟩
   rw[zeM (ud b) (G _),List.drop_length]
   rfl
attribute [local go_sem] Oper.semAt_some
def xZ(c:Cf)(se tm:Int)(k:Nat):Sg:=⟨(k:Int),se,tm/c.wh (k:Int)⟩
def qg(c:Cf)(se tm:Int)(k:Nat):List Sg:=(List.range k).map (xZ c se tm)
theorem yY(c:Cf)(se tm:Int)(k:Nat):qg c se tm (k+1)=qg c se tm k++[xZ c se tm k]:=by simp[qg,List.range_succ]
theorem XL(c:Cf)(se tm:Int)(k:Nat):(qg c se tm k).length=k:=by simp[qg]
theorem Xn{c:Cf}(b:c.ok){se tm:Int}(d:0<=se/\se<4)(a:0<=tm/\tm<=100000){k:Nat}(i:k<c.n):(xZ c se tm k).wf:=by
 obtain⟨f,g⟩:=b.wh (t:=(k:Int)) (by omega) (by omega)
 have hn:=b.n4
 have h:0<=tm/c.wh (k:Int):=Int.ediv_nonneg a.1 (by omega)
 have e:tm/c.wh (k:Int)<=tm:=Int.ediv_le_self _ a.1
 refine⟨?_,?_,?_⟩<;>unfold xR<;>simp only[xZ]<;>omega
structure jV(W:U)(q:Nat)(s:Nat)(c:Cf)(tv:P)(lb gb:Nat)(se tm:Int):Prop where
 b0:W.1[q]?=Q (.cells #[.pointer (Q ⟨s,0,I⟩)] 90 (0,0))
 b1:W.1[q+1]?=Q (.cells #[E Y se] 3 (0,0))
 b2:W.1[q+2]?=Q (.cells #[E Y tm] 3 (0,0))
 hd:kj W s c tv lb gb
theorem jV.later{W b:U}{q:Nat}{s:Nat}{c:Cf}{tv:P}{lb gb:Nat}{se tm:Int}(h:jV W q s c tv lb gb se tm)(a:Below W.1.size W b):jV b q s c tv lb gb se tm:=
 ⟨(a.block _ (zb h.b0)).trans h.b0,(a.block _ (zb h.b1)).trans h.b1,(a.block _ (zb h.b2)).trans h.b2,h.hd.later a⟩
theorem Qu{W a:U}(h:Below W.1.size W a):W.grownBy a I:=⟨h.os,h.tape,h.output,h.size,fun k b _=>h.block k b⟩
theorem zck(n:Nat)(hn:1<=n)(l q s:Nat)(c:Cf)(M:c.ok)(tv:P)(lb gb:Nat)(se tm:Int)(y:0<=se/\se<4)(z:0<=tm/\tm<=100000)(Kp:U->U->Prop)(m:∀A B,Kp A B->jV A q s c tv lb gb se tm->jV B q s c tv lb gb se tm)(J V:List WSg->U->Prop)
  (hY:∀d x W,J d W->d.length<c.n->YieldAt Fence.wide (n-1) prog l #[.agg #[E Y x.1.t,E Y x.1.se,E Y x.1.wn]] W fun e f=>
   (e=.returned (.bool true)/\J (d++[x]) f/\Kp W f)\/(e=.returned (.bool false)/\V (d++[x]) f))
  (W:U) (X:AbidesFrom W.1.size J) (g:jV W q s c tv lb gb se tm) (h0:J [] W):
  CallsIn Fence.wide n prog 183 #[.func (.yield l) #[] #[],.pointer (Q ⟨q,0,I⟩),.pointer (Q ⟨q+1,0,I⟩),.pointer (Q ⟨q+2,0,I⟩)] W fun e f=>(∃v,e=.returned v)/\
   ((∃xs,xs=(qg c se tm c.n).map zfW/\J xs f)\/(∃d,True/\V d f)):=by
 obtain⟨a,cap,rfl⟩:=zm g.hd.trow
 have HR:=zd g
 have HT:=zd (YV c a cap W)
 obtain⟨c0,c1,c2,c3,c4,c5,c6,-,-⟩:=g.hd.cells
 have O:=g.hd.lt
 obtain⟨q0,-⟩:=zc g.b0
 have a0:=M.n4
 have T:=zd X
 have HY:=zd hY
 have C:=zd m
 clear g X hY m
 refine callsIn_of_wp func183 rfl trivial ?_ rfl
 simp only[ntmps183,List.size_toArray,List.length_cons,List.length_nil,Nat.reduceAdd,Nat.reduceSub,Array.replicate_succ,Array.replicate_zero,List.push_toArray,List.append_toArray,List.nil_append,List.cons_append]
 gi_wp2_with (first|(refine⟨trivial,?_⟩;gi_at_call 179;refine(callsIn_wide.2 (ud HT)).mono ?_;rintro e w1 ⟨rfl,o⟩)|gi_in)
 clear c0 c1 c2 c3 c4 c5 c6 q0 O
 gi_loopw [11] (fun i wr=>∃k:Nat,k<=c.n/\i=E Y k/\J ((qg c se tm k).map zfW) wr/\jV wr q s c (.slice a c.n cap) lb gb se tm)
  (fun i _=>c.n-(intOf i).toNat)
 case atStart=>exact⟨0,Nat.zero_le _,rfl,ud T _ _ _ I h0 (Qu o) (fun r e=>by cases e),(ud HR).later o⟩
 case round=>
  obtain⟨k,hk,rfl,h,b⟩:=hrel
  by_cases u:k<c.n
  ·obtain⟨q0,-⟩:=zc b.b0
   obtain⟨q1,-⟩:=zc b.b1
   obtain⟨q2,-⟩:=zc b.b2
   have w:(k:Int)<c.n:=by omega
   have HK:=zd (zbF b.hd M (k:Int) se tm (by omega) w z)
   have F:=zd b
   have S:=Xn M y z u
   clear b
   gi_wp2_with (first|(refine⟨trivial,?_⟩;gi_at_call 122;refine(callsIn_wide.2 (ud HK)).mono ?_;rintro e w2 ⟨rfl,p⟩;have H:=ud T _ _ _ I h (Qu p) (fun r e=>by cases e);obtain⟨fn,tmps,assign,body,hy,L⟩:=ud HY _ (zfW (xZ c se tm k)) w2 H (by rw[List.length_map,XL];exact u);rw[Qc S]at hy;dsimp only[xZ]at hy)|gi_in)
   refine L.mono ?_
   rintro e W3 (⟨rfl,K,N⟩|⟨rfl,j⟩)
   ·have D:=zd (ud C _ _ N ((ud F).later p))
    gi_wp2
    go_roundw
    case rel=>exact⟨k+1,by omega,by simp,by rw[yY,List.map_append,List.map_singleton];exact K,ud D⟩
    case measure=>simp[intOf];omega
   ·gi_wp2
    refine bodyPost_ret (results_none rfl _ _ _) rfl ?_
    exact⟨⟨_,rfl⟩,.inr ⟨_,trivial,j⟩⟩
  ·obtain rfl:k=c.n:=by omega
   gi_wp2
   go_end0
   exact⟨⟨_,rfl⟩,.inl ⟨_,rfl,h⟩⟩
theorem Xs:∀args w,(callFunc 183 args).run prog w=.ok (.enter 183 args) w:=enters_of func183 (by kernel_rfl) rfl
theorem JY(n:Nat)(hn:1<=n)(q s:Nat)(c:Cf)(k:c.ok)(tv:P)(lb gb:Nat)(se tm:Int)(a:0<=se/\se<4)(d:0<=tm/\tm<=100000)(Kp:U->U->Prop)(b:∀A B,Kp A B->jV A q s c tv lb gb se tm->jV B q s c tv lb gb se tm)(w:U)(h:jV w q s c tv lb gb se tm):
  SeqStopsK Fence.wide n prog 183 #[.pointer (Q ⟨q,0,I⟩),.pointer (Q ⟨q+1,0,I⟩),.pointer (Q ⟨q+2,0,I⟩)] (fun x:WSg=>#[.agg #[E Y x.1.t,E Y x.1.se,E Y x.1.wn]]) Kp (fun xs=>xs=(qg c se tm c.n).map zfW) (fun _=>True) c.n w:=
 fun l J e W i g _ j f=>zck n hn l q s c k tv lb gb se tm a d Kp b J e j W g (h.later i) f
theorem Ys(w:U)(a b c:Obj):(((w.alloc a).alloc b).alloc c).1[w.1.size]?=Q a/\(((w.alloc a).alloc b).alloc c).1[w.1.size+1]?=Q b/\(((w.alloc a).alloc b).alloc c).1[w.1.size+2]?=Q c/\Below w.1.size w (((w.alloc a).alloc b).alloc c)/\(((w.alloc a).alloc b).alloc c).1.size=w.1.size+3:=by
 obtain⟨e,f,g,d⟩:=box2 w a b
 refine⟨(Below.heap_alloc _ _ _ (by rw[d];omega)).trans e,(Below.heap_alloc _ _ _ (by rw[d];omega)).trans f,?_,g.alloc (by rw[d];omega) _,by simp⟩
 have:=zr ((w.alloc a).alloc b) c
 rw[d]at this;exact this
def Qi(w:U)(s:Nat)(se tm:Int):U:=((w.alloc (.cells #[.pointer (Q ⟨s,0,I⟩)] 90)).alloc (.cells #[E Y se] 3)).alloc (.cells #[E Y tm] 3)
theorem Qj{w:U}{s:Nat}{c:Cf}{tv:P}{lb gb:Nat}(h:kj w s c tv lb gb)(se tm:Int):jV (Qi w s se tm) w.1.size s c tv lb gb se tm/\Below w.1.size w (Qi w s se tm)/\(Qi w s se tm).1.size=w.1.size+3:=by
 obtain⟨b,d,e,a,f⟩:=Ys w (.cells #[.pointer (Q ⟨s,0,I⟩)] 90) (.cells #[E Y se] 3) (.cells #[E Y tm] 3)
 exact⟨⟨b,d,e,h.later a⟩,a,f⟩
theorem Qh(s:Nat)(se tm:Int)(w:U):
  Calls prog 120 #[.pointer (Q ⟨s,0,I⟩),E Y se,E Y tm] w fun e w'=>e=.returned (.func (.func 183) #[] #[.pointer (Q ⟨w.1.size,0,I⟩),.pointer (Q ⟨w.1.size+1,0,I⟩),.pointer (Q ⟨w.1.size+2,0,I⟩)])/\w'=Qi w s se tm:=by
 go_enter func120,ntmps120
 go_wp2_with fail
 go_ret
 exact⟨rfl,rfl⟩
theorem vY{w:U}{base:Nat}{e:TypeId}{size:Nat}{v:P}{n:Nat}{xs:List P}(h:w.ownsRow base e size v n xs):∀k,v.ownBlock=Q k->k<w.1.size:=fun k c=>by
 obtain⟨a,b⟩:=zz h c;exact zb b
theorem jV.kx{ex:Nat->Prop}{n m:Nat}{A B:U}{q s:Nat}{c:Cf}{tv:P}{lb gb:Nat}{se tm:Int}(h:jV A q s c tv lb gb se tm)(b:KX ex n m A B)(a:∀i,i<=2->q+i<n/\¬ex (q+i))(d:s<n/\¬ex s)(g:∀k,tv.ownBlock=Q k->k<n/\¬ex k):jV B q s c tv lb gb se tm:=
 ⟨xV b h.b0 (a 0 (by omega)).1 (a 0 (by omega)).2,xV b h.b1 (a 1 (by omega)).1 (a 1 (by omega)).2,xV b h.b2 (a 2 (by omega)).1 (a 2 (by omega)).2,h.hd.kept b.kept (fun e=>e.elim d.2 (by have:=d.1;omega)) (fun k f e=>by have:=g k f;exact e.elim this.2 (by omega))⟩
theorem Vx{ex:Nat->Prop}{n:Nat}(q s:Nat)(c:Cf)(g:c.ok)(tv:P)(lb gb:Nat)(se tm:Int)(a:0<=se/\se<4)(e:0<=tm/\tm<=100000)(w:U)(f:jV w q s c tv lb gb se tm)(h:∀i,i<=2->q+i<n/\¬ex (q+i))(j:s<n/\¬ex s)(l:∀k,tv.ownBlock=Q k->k<n/\¬ex k):
  jW ex n prog 183 #[.pointer (Q ⟨q,0,I⟩),.pointer (Q ⟨q+1,0,I⟩),.pointer (Q ⟨q+2,0,I⟩)] (fun x:WSg=>#[.agg #[E Y x.1.t,E Y x.1.se,E Y x.1.wn]]) (fun xs=>xs=(qg c se tm c.n).map zfW) c.n w:=
 fun m _=>Yl.of (JY 6 (by omega) q s c g tv lb gb se tm a e (KX ex n m) (fun A B b d=>d.kx b h j l) w f)
theorem jN:∀args w,(callFunc 121 args).run prog w=.ok (.enter 121 args) w:=enters_of func121 (by kernel_rfl) rfl
theorem QO{c:Cf}(j:c.ok){L:LV}{Gl:List (Sg×Unit)}{se tm val:Int}(a:0<=se/\se<4)(f:0<=tm/\tm<=100000)(d:∀p∈L,p.2.st≠0)(b:∀k:Nat,k<c.n->zS Gl (xZ c se tm k)=I):∀k,k<=c.n->((((qg c se tm k).map zfW).filter (fun x=>(stG Gl L x.1).st==0)).length:Int)=qK c L ⟨se,tm,val⟩ k
 |0,_=>by simp[qg,qK]
 |k+1,o=>by
  have m:=QO j (val:=val) a f d b k (by omega)
  rw[yY,List.map_append,List.filter_append,List.length_append,Int.natCast_add,m]
  simp only[List.map_cons,List.map_nil,List.filter_cons,List.filter_nil,qK]
  rw[Qc (Xn j a f (by omega))]
  have e:zt c (k:Int) ⟨se,tm,val⟩=xZ c se tm k:=rfl
  have l:stG Gl L (xZ c se tm k)=stL L (xZ c se tm k):=by unfold stG;rw[b k (by omega)]
  rw[e,l]
  by_cases g:xZ c se tm k∈zl L
  ·obtain⟨v,hv,i⟩:=KH g
   have h:¬(stL L (xZ c se tm k)).st=0:=by unfold stL;rw[hv];exact d _ i
   simp[h,g]
  ·have h:(stL L (xZ c se tm k)).st=0:=by unfold stL;rw[ya.2 g];rfl
   simp[h,g]
theorem J0{w:U}{s:Nat}{c:Cf}{tv:P}{lb gb:Nat}{Gl:List (Sg×Unit)}{L:LV}(h:xl w s c tv lb gb Gl L)(t:c.ok)(se tm val:Int)(b:0<=se/\se<4)(l:0<=tm/\tm<=100000)(j:∀p∈L,p.2.st≠0)(g:∀k:Nat,k<c.n->zS Gl (xZ c se tm k)=I):
  Calls prog 62 #[.pointer (Q ⟨s,0,I⟩),E Y se,E Y tm] w fun e w'=>e=.returned (E Y (1+2*qK c L ⟨se,tm,val⟩ c.n))/\Below w.1.size w w':=by
 have u:=kN c L ⟨se,tm,val⟩ c.n
 have H:=t.n4
 have v:=QO t (val:=val) b l j g c.n (G _)
 generalize qK c L ⟨se,tm,val⟩ c.n=M at*
 obtain⟨D,F⟩:=u
 obtain⟨y,a,q⟩:=Qj h.hd se tm
 have f:=h.foot_lt
 have m:=zd (Qh s se tm w)
 have o:=zd (zdX (fun x:WSg=>x.1) 183 #[.pointer (Q ⟨w.1.size,0,I⟩),.pointer (Q ⟨w.1.size+1,0,I⟩),.pointer (Q ⟨w.1.size+2,0,I⟩)] Xs 121 #[.pointer (Q ⟨s,0,I⟩)] #[] jN (fun x=>(stG Gl L x.1).st==0) (Qi w s se tm)
  (fun x W B=>Xx (h.later (a.trans (B.mono a.size))) x.1 x.2)
  (Vx w.1.size s c t tv lb gb se tm b l (Qi w s se tm) y (fun i K=>⟨by omega,fun e=>e⟩) ⟨by have:=h.lt;omega,fun e=>e⟩ (fun k C=>⟨by have:=f k (.inr (.inl C));omega,fun e=>e⟩))
  (fun xs e=>by rw[e,List.length_map,XL];omega))
 have A:=zd v
 have d:=zd a
 clear v y a h j g f q
 go_enter func62,ntmps62
 go_wp2_with fail
 refine(ud m).mono ?_
 rintro e J ⟨rfl,rfl⟩
 go_wp2_with fail
 refine(ud o).mono ?_
 rintro e J ⟨xs,rfl,z,r⟩
 rw[ud A]at z
 subst z
 go_wp2_with fail
 go_ret
 exact⟨rfl,(ud d).trans (r.mono (ud d).size)⟩
end Go.Proofs.YtndhpgciopcncaaGreatDoor
namespace Go.Proofs.YtndhpgciopcncaaGreatDoor.Dr
open Go.RowKit Go.Maps Go.Shelf
structure Below(B:Nat)(w w':U):Prop where
 bel:Go.RowKit.Below B w w'
 more:w.drawn<=w'.drawn
theorem Below.size{B:Nat}{w w':U}(h:Below B w w'):w.1.size<=w'.1.size:=h.bel.size
theorem Below.block{B:Nat}{w w':U}(h:Below B w w'):∀k,k<B->w'.1[k]?=w.1[k]?:=h.bel.block
theorem Below.cell{B:Nat}{w w':U}(h:Below B w w'){p:Addr}(a:p.block<B):w'.cell? p=w.cell? p:=h.bel.cell a
theorem Below.refl(B:Nat)(w:U):Below B w w:=⟨Go.RowKit.Below.refl _ _,G _⟩
theorem Below.trans{B:Nat}{a b c:U}(h:Below B a b)(k:Below B b c):Below B a c:=⟨h.bel.trans k.bel,R h.more k.more⟩
theorem Below.mono{B B':Nat}{w w':U}(h:Below B w w')(a:B'<=B):Below B' w w':=⟨h.bel.mono a,h.more⟩
theorem Below.drew{B:Nat}{a w:U}(h:Below B a w):Below B a w.drew:=⟨h.bel.drew,R h.more (Nat.le_succ _)⟩
theorem Below.alloc{B:Nat}{a w:U}(h:Below B a w)(b:B<=w.1.size)(o:Obj):Below B a (w.alloc o):=⟨h.bel.alloc b o,h.more⟩
theorem ZO(w:U)(p:Addr)(u:P):(w.setCell p u).drawn=w.drawn:=by
 unfold World.setCell;repeat' split
 all_goals rfl
theorem Below.setCell{B:Nat}{a w:U}(h:Below B a w){p:Addr}(b:B<=p.block)(u:P):Below B a (w.setCell p u):=⟨h.bel.setCell b u,by rw[ZO];exact h.more⟩
theorem Below.heap_alloc(w:U)(o:Obj)(k:Nat)(h:k<w.1.size):(w.alloc o).1[k]?=w.1[k]?:=Go.RowKit.Below.heap_alloc w o k h
theorem Below.heap_setCell(w:U)(a:Addr)(u:P)(k:Nat)(h:k≠a.block):(w.setCell a u).1[k]?=w.1[k]?:=Go.RowKit.Below.heap_setCell w a u k h
theorem box2(w:U)(a b:Obj):((w.alloc a).alloc b).1[w.1.size]?=Q a/\((w.alloc a).alloc b).1[w.1.size+1]?=Q b/\Below w.1.size w ((w.alloc a).alloc b)/\((w.alloc a).alloc b).1.size=w.1.size+2:=by
 obtain⟨c,d,e,f⟩:=YtndhpgciopcncaaGreatDoor.box2 w a b
 exact⟨c,d,⟨e,G _⟩,f⟩
theorem below4{B:Nat}{w:U}{g:Nat}(h:B<=g)(a b c d:P):Below B w ((((w.setCell ⟨g,0,I⟩ a).setCell ⟨g,1,I⟩ b).setCell ⟨g,2,I⟩ c).setCell ⟨g,3,I⟩ d):=⟨YtndhpgciopcncaaGreatDoor.below4 h a b c d,by simp only[ZO];exact G _⟩
end Go.Proofs.YtndhpgciopcncaaGreatDoor.Dr
namespace Go.Proofs.YtndhpgciopcncaaGreatDoor
open Go.RowKit Go.Maps Go.Shelf
theorem Dr.Below.lays{w w':U}(h:Dr.Below w.1.size w w'):∃q os,w'=Go.Sort.grow (w.drewN q) os:=by
 obtain⟨⟨a,b,c,e,d⟩,f⟩:=h
 refine⟨w'.drawn-w.drawn,w'.heap.extract w.1.size w'.1.size,?_⟩
 obtain⟨j,l,g,os,k⟩:=w'
 dsimp only at a b c e d f ⊢
 subst a b c
 unfold Go.Sort.grow World.drewN
 dsimp only
 congr 1
 ·apply Array.ext_getElem?
  intro i
  rw[Array.getElem?_append]
  split
  ·rename_i hi;exact d i hi
  ·rename_i hi
   rw[Array.getElem?_extract]
   split
   ·congr 1;omega
   ·rw[Array.getElem?_eq_none];omega
 ·omega
end Go.Proofs.YtndhpgciopcncaaGreatDoor
namespace Go.Proofs.YtndhpgciopcncaaGreatDoor
open Go.RowKit Go.Maps Go.Shelf
attribute [local go_sem] Oper.semAt_some
def CAt(W:U)(b:Nat)(l:List Cl):Prop:=∀j x,l[j]?=Q x->W.cell? ⟨b,j*4,I⟩=Q (E Y x.cnt)/\W.cell? ⟨b,j*4+1,I⟩=Q (E Y x.sum)/\W.cell? ⟨b,j*4+2,I⟩=Q (E Z x.mn)/\W.cell? ⟨b,j*4+3,I⟩=Q (E Z x.mx)
theorem CAt.below{n b:Nat}{A B:U}{l:List Cl}(h:CAt A b l)(a:Below n A B)(c:b<n):CAt B b l:=fun j x i=>by
 obtain⟨d,e,f,g⟩:=h j x i
 exact⟨(a.cell (p:=⟨b,_,I⟩) c).trans d,(a.cell (p:=⟨b,_,I⟩) c).trans e,(a.cell (p:=⟨b,_,I⟩) c).trans f,(a.cell (p:=⟨b,_,I⟩) c).trans g⟩
theorem zcn(n:Nat)(hn:1<=n)(l u o b cap:Nat)(ad:Option Addr)(zs:List Cl)(N:zs≠[]->ad=Q ⟨b,0,I⟩)(hz:zs.length<=1000)(O:b<o)(J w:List Cl->U->Prop)
  (z:∀a x W,J a W->a.length<zs.length->YieldAt Fence.wide (n-1) prog l #[.agg #[E Y x.cnt,E Y x.sum,E Z x.mn,E Z x.mx]] W fun e f=>
   (e=.returned (.bool true)/\J (a++[x]) f/\Below o W f)\/(e=.returned (.bool false)/\w (a++[x]) f))
  (W:U) (s:o<=W.1.size) (y:AbidesFrom W.1.size J) (L:W.cell? ⟨u,0,I⟩=Q (.slice ad zs.length cap)) (A:CAt W b zs) (K:J [] W):
  CallsIn Fence.wide n prog 238 #[.func (.yield l) #[] #[],.pointer (Q ⟨u,0,I⟩)] W fun e f=>(∃v,e=.returned v)/\
   ((∃xs,xs=zs/\J xs f)\/(∃a,True/\w a f)):=by
 have C:=zd A
 have H:=zd z
 have D:=zd y
 clear A z y
 refine callsIn_of_wp func238 rfl trivial ?_ rfl
 simp only[ntmps238,List.size_toArray,List.length_cons,List.length_nil,Nat.reduceAdd,Nat.reduceSub,Array.replicate_succ,Array.replicate_zero,List.push_toArray,List.append_toArray,List.nil_append,List.cons_append]
 gi_wp2
 gi_loopw [7] (fun i wr=>∃k:Nat,k<=zs.length/\i=E Y k/\J (zs.take k) wr/\Below o W wr)
  (fun i _=>zs.length-(intOf i).toNat)
 case atStart=>exact⟨0,Nat.zero_le _,rfl,K,Below.refl _ _⟩
 case round=>
  obtain⟨k,V,rfl,j,d⟩:=hrel
  by_cases c:k<zs.length
  ·obtain rfl:=N (fun e=>by rw[e]at c;simp at c)
   obtain⟨x,t⟩:=xz c
   obtain⟨y0,y1,y2,y3⟩:=(ud C).below d O k x t
   have h:=ud D _ _ _ I j (World.grownBy_alloc wr (.cells #[E Y x.cnt,E Y x.sum,E Z x.mn,E Z x.mx] 115) I) (fun r e=>by cases e)
   obtain⟨fn,tmps,assign,body,X,M⟩:=ud H _ x _ h (by rw[List.length_take];omega)
   have B:(k:Int)<zs.length:=by omega
   have F:=zd t
   have g:=zd d
   clear t d h
   gi_wp2
   refine M.mono ?_
   rintro e T (⟨rfl,p,q⟩|⟨rfl,m⟩)
   ·gi_wp2
    go_roundw
    case rel=>
     refine⟨k+1,by omega,by simp,?_,?_⟩
     ·obtain⟨S,ex⟩:=List.getElem?_eq_some_iff.1 (ud F)
      rw[List.take_succ_eq_append_getElem S,ex];exact p
     ·exact((ud g).alloc (R s (ud g).size) _).trans q
    case measure=>simp[intOf];omega
   ·gi_wp2
    refine bodyPost_ret (results_none rfl _ _ _) rfl ?_
    exact⟨⟨_,rfl⟩,.inr ⟨_,trivial,m⟩⟩
  ·obtain rfl:k=zs.length:=by omega
   gi_wp2
   go_end0
   exact⟨⟨_,rfl⟩,.inl ⟨_,List.take_length,j⟩⟩
theorem zab(a:Option Addr)(len cap:Nat)(w:U):
  Calls prog 186 #[.slice a len cap] w fun e w'=>e=.returned (.func (.func 238) #[] #[.pointer (Q ⟨w.1.size,0,I⟩)])/\w'=w.alloc (.cells #[.slice a len cap] 208):=by
 go_enter func186,ntmps186
 go_wp2_with fail
 go_ret
 exact⟨rfl,rfl⟩
theorem Zu:∀args w,(callFunc 238 args).run prog w=.ok (.enter 238 args) w:=enters_of func238 (by kernel_rfl) rfl
theorem KC(n:Nat)(hn:1<=n)(a d b cap:Nat)(ad:Option Addr)(zs:List Cl)(o:zs≠[]->ad=Q ⟨b,0,I⟩)(r:zs.length<=1000)(h:b<d)(w:U)(c:d<=w.1.size)(e:a<w.1.size)(f:w.cell? ⟨a,0,I⟩=Q (.slice ad zs.length cap))(q:CAt w b zs):
  SeqStopsK Fence.wide n prog 238 #[.pointer (Q ⟨a,0,I⟩)] (fun x:Cl=>#[.agg #[E Y x.cnt,E Y x.sum,E Z x.mn,E Z x.mx]]) (Below d) (fun xs=>xs=zs) (fun _=>True) zs.length w:=
 fun l J i W g k _ m j=>zcn n hn l a d b cap ad zs o r h J i m W (R c g.size) k ((g.cell (p:=⟨a,0,I⟩) e).trans f) (q.below (g.mono c) h) j
def zcl(a b:Int):Int:=if a<b then-1 else if b<a then 1 else 0
theorem QA(a:Int)(w:U):Calls prog 239 #[E Z a] w fun e w'=>e=.returned (.bool false)/\w'=w:=by
 have h:(a==a)=true:=by simp
 go_enter func239,ntmps239
 go_wp2_with fail
 go_ret
 exact⟨by simp,rfl⟩
theorem Qk(a b:Int)(w:U):Calls prog 188 #[E Z a,E Z b] w fun e w'=>e=.returned (E Y (zcl a b))/\w'=w:=by
 rcases Int.lt_trichotomy a b with h|h|h
 ·rw[show zcl a b= -1 from by simp[zcl,h]]
  go_enter func188,ntmps188
  go_wp2_with(go_at_call 239;refine(QA _ _).mono ?_;rintro e d ⟨rfl,rfl⟩)
  go_ret
  exact⟨rfl,rfl⟩
 ·rw[show zcl a b=0 from by simp[zcl,h]]
  have c:¬a<b:=by omega
  have f:¬b<a:=by omega
  have g:decide (a<b)=false:=by simpa using c
  have i:decide (b<a)=false:=by simpa using f
  go_enter func188,ntmps188
  go_wp2_with(go_at_call 239;refine(QA _ _).mono ?_;rintro e d ⟨rfl,rfl⟩)
  go_ret
  exact⟨rfl,rfl⟩
 ·have c:¬a<b:=by omega
  rw[show zcl a b=1 from by simp[zcl,h,c]]
  have g:decide (a<b)=false:=by simpa using c
  go_enter func188,ntmps188
  go_wp2_with(go_at_call 239;refine(QA _ _).mono ?_;rintro e d ⟨rfl,rfl⟩)
  go_ret
  exact⟨rfl,rfl⟩
def Yn(x y:Cl):Int:=zcl x.mn y.mn
def Yo(x y:Cl):Int:=zcl y.mx x.mx
theorem zej(x y:Cl)(w:U):Calls prog 187 #[.agg #[E Y x.cnt,E Y x.sum,E Z x.mn,E Z x.mx],.agg #[E Y y.cnt,E Y y.sum,E Z y.mn,E Z y.mx]] w fun e w'=>e=.returned (E Y (Yn x y))/\Below w.1.size w w':=by
 go_enter func187,ntmps187
 go_wp2_with(go_at_call 188;refine(Qk _ _ _).mono ?_;rintro e a ⟨rfl,rfl⟩)
 go_ret
 exact⟨rfl,(box2 w _ _).2.2.1⟩
theorem zek(x y:Cl)(w:U):Calls prog 189 #[.agg #[E Y x.cnt,E Y x.sum,E Z x.mn,E Z x.mx],.agg #[E Y y.cnt,E Y y.sum,E Z y.mn,E Z y.mx]] w fun e w'=>e=.returned (E Y (Yo x y))/\Below w.1.size w w':=by
 go_enter func189,ntmps189
 go_wp2_with(go_at_call 188;refine(Qk _ _ _).mono ?_;rintro e a ⟨rfl,rfl⟩)
 go_ret
 exact⟨rfl,(box2 w _ _).2.2.1⟩
theorem zel(x:Cl)(w:U):Calls prog 191 #[.agg #[E Y x.cnt,E Y x.sum,E Z x.mn,E Z x.mx]] w fun e w'=>e=.returned (E Y x.cnt)/\Below w.1.size w w':=by
 go_enter func191,ntmps191
 go_wp2_with fail
 go_ret
 exact⟨rfl,(Below.refl _ _).alloc (G _) _⟩
theorem zem(x:Cl)(w:U):Calls prog 193 #[.agg #[E Y x.cnt,E Y x.sum,E Z x.mn,E Z x.mx]] w fun e w'=>e=.returned (E Y x.sum)/\Below w.1.size w w':=by
 go_enter func193,ntmps193
 go_wp2_with fail
 go_ret
 exact⟨rfl,(Below.refl _ _).alloc (G _) _⟩
attribute [local go_sem] Oper.semAt_some
def vB(a:Cl->Cl->Int)(o:Option Cl)(x:Cl):Option Cl:=match o with
 |none=>Q x
 |some f=>if a x f<0 then Q x else Q f
def qX(a:Cl->Cl->Int)(l:List Cl):Option Cl:=l.foldl (vB a) I
theorem ka(a:Cl->Cl->Int)(l:List Cl)(x:Cl):qX a (l++[x])=vB a (qX a l) x:=by simp[qX]
def xU(x:Cl):Obj:=.cells #[E Y x.cnt,E Y x.sum,E Z x.mn,E Z x.mx] 115 (0,0)
theorem Ya{w:U}{g:Nat}{a b c d:P}{t:TypeId}{e:Nat×Nat}(h:w.1[g]?=Q (.cells #[a,b,c,d] t e))(x y z u:P):((((w.setCell ⟨g,0,I⟩ x).setCell ⟨g,1,I⟩ y).setCell ⟨g,2,I⟩ z).setCell ⟨g,3,I⟩ u).1[g]?=Q (.cells #[x,y,z,u] t e):=by
 have:=xi (i:=3) (xi (i:=2) (xi (i:=1) (xi (i:=0) h x) y) z) u
 exact this
theorem xx{w:U}{g i k:Nat}{v:P}(h:k≠g):(w.setCell ⟨g,i,I⟩ v).1[k]?=w.1[k]?:=by
 rcases Nat.lt_or_gt_of_ne h with h|h
 ·exact((Below.refl (k+1) w).setCell (p:=⟨g,i,I⟩) (show k+1<=g from h) v).block k (Nat.lt_succ_self _)
 ·have c:zk (fun k=>k=g) w (w.setCell ⟨g,i,I⟩ v):=zq (zk.refl _ _) rfl
  by_cases d:k<w.1.size
  ·exact c.block k d (by omega)
  ·have a:w.1[k]?=I:=by simp;omega
   have b:(w.setCell ⟨g,i,I⟩ v).1.size=w.1.size:=by simp[World.setCell]
   rw[a];simp[b];omega
structure FI(ov:P)(ot:TypeId)(w:U)(o:Option Cl)(W:U):Prop where
 i1:W.1[w.1.size]?=Q (.cells #[ov] ot (0,0))
 i2:W.1[w.1.size+1]?=Q (xU qC)
 i3:W.1[w.1.size+2]?=Q (xU (o.getD qC))
 i4:W.1[w.1.size+3]?=Q (.cells #[.bool o.isSome] 4 (0,0))
 i5:Below w.1.size w W
theorem FI.own{f:P}{d:TypeId}{w A B:U}{o:Option Cl}{row:Option Nat}{N:Nat}(g:w.1.size<=N)(a:FI f d w o A)(b:A.grownBy B row)(c:∀r,row=Q r->N<=r/\∃o:Obj,A.1[r]?=Q o/\o.isCells=false):FI f d w o B:=
 ⟨zI a.i1 b (fun r e=>(c r e).2),zI a.i2 b (fun r e=>(c r e).2),zI a.i3 b (fun r e=>(c r e).2),zI a.i4 b (fun r e=>(c r e).2),a.i5.grown b a.i5.size (fun k e=>by have:=(c k e).1;omega)⟩
theorem FI.later{c:P}{b:TypeId}{w A B:U}{o:Option Cl}(h:FI c b w o A)(a:Below A.1.size A B):FI c b w o B:=
 ⟨(a.block _ (zb h.i1)).trans h.i1,(a.block _ (zb h.i2)).trans h.i2,(a.block _ (zb h.i3)).trans h.i3,(a.block _ (zb h.i4)).trans h.i4,h.i5.trans (a.mono h.i5.size)⟩
theorem YI{e:P}{d:TypeId}{w W X:U}{o c:Option Cl}{Kp:U->U->Prop}{N:Nat}(h:FI e d w o W)(f:c=o)(b:vN w.1.size Kp)(a:Below W.1.size W X):KeepsFrom N W X/\Kp W X/\FI e d w c X:=by
 subst f
 exact⟨(yu a).from _,b.of _ _ (yu a) (a.mono h.i5.size),h.later a⟩
theorem Zv{m:P}{l:TypeId}{w W X:U}{o j:Option Cl}{x:Cl}{Kp:U->U->Prop}{N:Nat}(h:FI m l w o W)(r:j=Q x)(e:vN w.1.size Kp)(d:Below W.1.size W X):
  KeepsFrom N W (((((X.setCell ⟨w.1.size+2,0,I⟩ (E Y x.cnt)).setCell ⟨w.1.size+2,1,I⟩ (E Y x.sum)).setCell ⟨w.1.size+2,2,I⟩ (E Z x.mn)).setCell ⟨w.1.size+2,3,I⟩ (E Z x.mx)).setCell ⟨w.1.size+3,0,I⟩ (.bool true))/\Kp W (((((X.setCell ⟨w.1.size+2,0,I⟩ (E Y x.cnt)).setCell ⟨w.1.size+2,1,I⟩ (E Y x.sum)).setCell ⟨w.1.size+2,2,I⟩ (E Z x.mn)).setCell ⟨w.1.size+2,3,I⟩ (E Z x.mx)).setCell ⟨w.1.size+3,0,I⟩ (.bool true))/\FI m l w j (((((X.setCell ⟨w.1.size+2,0,I⟩ (E Y x.cnt)).setCell ⟨w.1.size+2,1,I⟩ (E Y x.sum)).setCell ⟨w.1.size+2,2,I⟩ (E Z x.mn)).setCell ⟨w.1.size+2,3,I⟩ (E Z x.mx)).setCell ⟨w.1.size+3,0,I⟩ (.bool true)):=by
 subst r
 have b:=h.later d
 have f:KeepsOthers W (((((X.setCell ⟨w.1.size+2,0,I⟩ (E Y x.cnt)).setCell ⟨w.1.size+2,1,I⟩ (E Y x.sum)).setCell ⟨w.1.size+2,2,I⟩ (E Z x.mn)).setCell ⟨w.1.size+2,3,I⟩ (E Z x.mx)).setCell ⟨w.1.size+3,0,I⟩ (.bool true)):=(((((yu d).trans (KeepsOthers.setCell _ _ _)).trans (KeepsOthers.setCell _ _ _)).trans (KeepsOthers.setCell _ _ _)).trans (KeepsOthers.setCell _ _ _)).trans (KeepsOthers.setCell _ _ _)
 have g:Below w.1.size W (((((X.setCell ⟨w.1.size+2,0,I⟩ (E Y x.cnt)).setCell ⟨w.1.size+2,1,I⟩ (E Y x.sum)).setCell ⟨w.1.size+2,2,I⟩ (E Z x.mn)).setCell ⟨w.1.size+2,3,I⟩ (E Z x.mx)).setCell ⟨w.1.size+3,0,I⟩ (.bool true)):=(((((d.mono h.i5.size).setCell (p:=⟨w.1.size+2,0,I⟩) (show w.1.size<=w.1.size+2 by omega) _).setCell (p:=⟨w.1.size+2,1,I⟩) (show w.1.size<=w.1.size+2 by omega) _).setCell (p:=⟨w.1.size+2,2,I⟩) (show w.1.size<=w.1.size+2 by omega) _).setCell (p:=⟨w.1.size+2,3,I⟩) (show w.1.size<=w.1.size+2 by omega) _).setCell (p:=⟨w.1.size+3,0,I⟩) (show w.1.size<=w.1.size+3 by omega) _
 have n:=Ya b.i3 (E Y x.cnt) (E Y x.sum) (E Z x.mn) (E Z x.mx)
 have a:∀k,k≠w.1.size+2->((((X.setCell ⟨w.1.size+2,0,I⟩ (E Y x.cnt)).setCell ⟨w.1.size+2,1,I⟩ (E Y x.sum)).setCell ⟨w.1.size+2,2,I⟩ (E Z x.mn)).setCell ⟨w.1.size+2,3,I⟩ (E Z x.mx)).1[k]?=X.1[k]?:=fun k c=>by
  rw[xx c,xx c,xx c,xx c]
 have q:=xi (i:=0) ((a (w.1.size+3) (by omega)).trans b.i4) (.bool true)
 refine⟨f.from _,e.of _ _ f g,⟨?_,?_,?_,q,h.i5.trans g⟩⟩
 ·rw[xx (by omega),a _ (by omega)];exact b.i1
 ·rw[xx (by omega),a _ (by omega)];exact b.i2
 ·rw[xx (by omega)];exact n
theorem zcq(gf:Nat)(lb:Array P)(eg:∀args w,(callFunc gf args).run prog w=.ok (.enter gf args) w){Kp:U->U->Prop}{S Sp:List Cl->Prop}{N:Nat}(w:U)(a5:vN w.1.size Kp)
  (M:SeqStopsK Fence.wide 6 prog gf lb (fun x:Cl=>#[.agg #[E Y x.cnt,E Y x.sum,E Z x.mn,E Z x.mx]]) Kp S Sp N w):
  Calls prog 185 #[.func (.func gf) #[] lb,.func (.func 187) #[] #[]] w fun e w'=>∃xs,S xs/\e=.returned (.tuple #[clV ((qX Yn xs).getD qC),.bool (qX Yn xs).isSome])/\Below w.1.size w w':=by
 have a0:=zd M
 have q:=zd a5
 have a9:=zd eg
 obtain⟨b1,b2,b3,L,k⟩:=Ys w (.cells #[.func (.func 187) #[] #[]] 268) (xU qC) (xU qC)
 have y:Hid (FI (.func (.func 187) #[] #[]) 268 w I ((((w.alloc (.cells #[.func (.func 187) #[] #[]] 268)).alloc (xU qC)).alloc (xU qC)).alloc (.cells #[.bool false] 4))):=
  ⟨(Below.heap_alloc _ _ _ (by rw[k];omega)).trans b1,(Below.heap_alloc _ _ _ (by rw[k];omega)).trans b2,(Below.heap_alloc _ _ _ (by rw[k];omega)).trans b3,by have:=zr (((w.alloc (.cells #[.func (.func 187) #[] #[]] 268)).alloc (xU qC)).alloc (xU qC)) (.cells #[.bool false] 4);rw[k]at this;exact this,L.alloc (by rw[k];omega) _⟩
 have BZ:Hid (((((w.alloc (.cells #[.func (.func 187) #[] #[]] 268)).alloc (xU qC)).alloc (xU qC)).alloc (.cells #[.bool false] 4)).1.size=w.1.size+4):=by show _=_;rw[zG,k]
 clear M a5 eg b1 b2 b3 L k
 unfold xU qC at y BZ
 dsimp only at y BZ
 refine(callsIn_wide (n:=7)).1 ?_
 refine callsIn_of_wp_marks func185 rfl trivial ?_ rfl
 simp only[ntmps185,List.size_toArray,List.length_cons,List.length_nil,Nat.reduceAdd,Nat.reduceSub,Array.replicate_succ,Array.replicate_zero,List.push_toArray,List.append_toArray,List.nil_append,List.cons_append]
 gi_wp2
 obtain⟨W0,a3⟩:∃W0,((((w.alloc (.cells #[.func (.func 187) #[] #[]] 268)).alloc (.cells #[E Y 0,E Y 0,E Z 0,E Z 0] 115)).alloc (.cells #[E Y 0,E Y 0,E Z 0,E Z 0] 115)).alloc (.cells #[.bool false] 4))=W0:=⟨_,rfl⟩
 rw[a3]at y BZ ⊢
 clear a3
 have hz:W0.1.size=w.1.size+4:=ud BZ
 refine wpIn_rangeFunc_ownH (F:=Fence.wide) (n:=7) rfl (by omega) (gf:=gf) (lb:=lb) rfl trivial (ud a9) (ud a0) (ud q).t (fun W l o o' hl=>(ud q).b W l o o' (by omega)) (ud y).i5 (fun _=>rfl)
  (fun u W=>FI (.func (.func 187) #[] #[]) 268 w (qX Yn u) W)
  (fun _ _ _=>False)
  (fun s A B row hs X hr=>FI.own (by omega) hs X hr)
  (fun _ _ _ _ _ hs _ _=>hs)
  (ud y)
  (fun x a' W=>∃v,w.1.size+4<=v/\W.1[v]?=Q (.cells #[E Y x.cnt,E Y x.sum,E Z x.mn,E Z x.mx] 115 (0,0))/\a'={tmps:=#[.func (.func gf) #[] lb,.func (.func 187) #[] #[],undef,.pointer (Q ⟨w.1.size,0,I⟩),.pointer (Q ⟨w.1.size+1,0,I⟩),.bool false,.pointer (Q ⟨w.1.size+2,0,I⟩),.pointer (Q ⟨w.1.size+3,0,I⟩),.pointer (Q ⟨v,0,I⟩),.func (.func gf) #[] lb,.agg #[E Y x.cnt,E Y x.sum,E Z x.mn,E Z x.mx],undef,undef,undef,undef,undef,undef,undef,undef,undef,undef,undef,undef],defers:=[]})
  (fun x a' s A B row hs X hr=>by
   obtain⟨v,h1,h2,h3⟩:=hs
   exact⟨v,h1,zI h2 X (fun r e=>(hr r e).2),h3⟩) ?assign ?body ?done ?stop
 case assign=>
  rintro l u x W K d hK
  have a7:=d.i5.size
  have ag:=zb d.i4
  have HK:=zd hK
  have m:=zd d
  clear hK d
  gi_wp2
  refine ud HK _ _ ((KeepsOthers.alloc _ _).from _) ((ud q).of _ _ (KeepsOthers.alloc _ _) ((Below.refl _ W).alloc a7 _)) ((ud m).later ((Below.refl _ _).alloc (G _) _)) ⟨W.1.size,by omega,zr _ _,rfl⟩
 case body=>
  rintro l u x a' W hl ⟨r,hr⟩ d ⟨v,af,hx,rfl⟩ ah
  have a7:=d.i5.size
  have H:=zb hx
  have ac:=zb d.i4
  obtain⟨c1,-⟩:=zc d.i1
  obtain⟨x0,x1,x2,x3,-⟩:=zc hx
  have ad:¬v=w.1.size+2:=by omega
  have ae:¬v=w.1.size+3:=by omega
  have m:=zd d
  have HX:=zd hx
  have i:=ka Yn u x
  cases hF:qX Yn u with
  |none=>
   rw[hF]at d m i
   obtain⟨g0,g1,g2,g3,-⟩:=zc d.i3
   have a1:=fun j=>zH d.i3 j
   have ab:=fun j=>zH d.i4 j
   obtain⟨c4,-⟩:=zc d.i4
   have z:=zd i
   clear d hx hF i
   gi_wp2
   refine⟨fun _ h=>(by cases h),?_⟩
   gi_wp2
   all_goals(try go_bits)
   exact Zv (ud m) (ud z) (ud q) (Below.refl _ _)
  |some f=>
   rw[hF]at d m i
   obtain⟨g0,g1,g2,g3,-⟩:=zc d.i3
   obtain⟨c4,-⟩:=zc d.i4
   have HC:=zd (zej x f W)
   have J:=zb d.i3
   clear d hx hF
   by_cases ho:Yn x f<0
   ·have z:=zd (i.trans (show vB Yn (Q f) x=Q x by simp[vB,ho]))
    clear i
    generalize Yn x f=O at*
    gi_wp2_with (first|(refine⟨trivial,?_⟩;gi_at_call 187;refine(CallsIn.inRound l (callsIn_wide.2 (ud HC))).mono ?_;rintro e w' ⟨rfl,a⟩;have d0:=(a.cell (p:=⟨v,0,I⟩) H).trans x0;have d1:=(a.cell (p:=⟨v,1,I⟩) H).trans x1;have d2:=(a.cell (p:=⟨v,2,I⟩) H).trans x2;have d3:=(a.cell (p:=⟨v,3,I⟩) H).trans x3;have e0:=(a.cell (p:=⟨w.1.size+2,0,I⟩) J).trans g0;have e1:=(a.cell (p:=⟨w.1.size+2,1,I⟩) J).trans g1;have e2:=(a.cell (p:=⟨w.1.size+2,2,I⟩) J).trans g2;have e3:=(a.cell (p:=⟨w.1.size+2,3,I⟩) J).trans g3;have e4:=(a.cell (p:=⟨w.1.size+3,0,I⟩) ac).trans c4;have a1:=fun j=>zH ((ud m).later a).i3 j;have ab:=fun j=>zH ((ud m).later a).i4 j;have T:=zd a;clear a)|gi_in)
    all_goals(try go_bits)
    exact Zv (ud m) (ud z) (ud q) (ud T)
   ·have z:=zd (i.trans (show vB Yn (Q f) x=Q f by simp[vB,ho]))
    have ai:decide (Yn x f<0)=false:=by simpa using ho
    clear i
    generalize Yn x f=O at*
    gi_wp2_with (first|(refine⟨trivial,?_⟩;gi_at_call 187;refine(CallsIn.inRound l (callsIn_wide.2 (ud HC))).mono ?_;rintro e w' ⟨rfl,a⟩;have T:=zd a;clear a)|gi_in)
    all_goals(try go_bits)
    exact YI (ud m) (ud z) (ud q) (ud T)
 case done=>
  rintro D xs W hD hS d hK
  have m:=zd d
  have HK:=zd hK
  have HS:=zd hS
  obtain⟨fo,V⟩:∃fo,qX Yn xs=fo:=⟨_,rfl⟩
  rw[V]at d m
  obtain⟨g0,g1,g2,g3,-⟩:=zc d.i3
  obtain⟨c4,-⟩:=zc d.i4
  obtain⟨r0,r1,r2,r3,-⟩:=zc d.i2
  have a1:=fun j=>zH d.i2 j
  have aa:=zd V
  clear d hK hS V
  obtain⟨g,X⟩:∃g,fo.getD qC=g:=⟨_,rfl⟩
  obtain⟨bb,hbb⟩:∃bb,fo.isSome=bb:=⟨_,rfl⟩
  rw[X]at g0 g1 g2 g3
  rw[hbb]at c4
  have HG:=zd X
  have a8:=zd hbb
  clear X hbb
  gi_wp2
  gi_region
  gi_wp2
  have C:D≠w.1.size+1:=by omega
  have a6:=ziX (ud m).i2 (E Y g.cnt) (E Y g.sum) (E Z g.mn) (E Z g.mx)
  have a2:(((((W.setCell ⟨w.1.size+1,0,I⟩ (E Y g.cnt)).setCell ⟨w.1.size+1,1,I⟩ (E Y g.sum)).setCell ⟨w.1.size+1,2,I⟩ (E Z g.mn)).setCell ⟨w.1.size+1,3,I⟩ (E Z g.mx)).drew).1[D]?=Q (.deferred (Q [])):=by
   show((((W.setCell ⟨w.1.size+1,0,I⟩ (E Y g.cnt)).setCell ⟨w.1.size+1,1,I⟩ (E Y g.sum)).setCell ⟨w.1.size+1,2,I⟩ (E Z g.mn)).setCell ⟨w.1.size+1,3,I⟩ (E Z g.mx)).1[D]?=_
   rw[xx C,xx C,xx C,xx C];exact ud HK
  have a4:=((ud m).i5).trans (JS (w:=W) (B:=w.1.size) (g:=w.1.size+1) (Nat.le_succ _) (E Y g.cnt) (E Y g.sum) (E Z g.mn) (E Z g.mx))
  refine⟨by simp,.inl ⟨_,_,rfl,run_takeDeferred a2,?_⟩⟩
  refine⟨_,zp results185 _ _ (w.1.size+1) _ _ _ _ _ rfl rfl ((World.putObj_heap_other (fun e=>C e.symm)).trans a6) underlying115 rfl (by kernel_rfl),xs,ud HS,?_,xE a4 (G _) (by omega) a2 _⟩
  rw[ud aa,ud HG,ud a8];rfl
 case stop=>
  rintro D c u W _ _ h _
  exact h.elim
theorem zcr(gf:Nat)(lb:Array P)(eg:∀args w,(callFunc gf args).run prog w=.ok (.enter gf args) w){Kp:U->U->Prop}{S Sp:List Cl->Prop}{N:Nat}(w:U)(a5:vN w.1.size Kp)
  (M:SeqStopsK Fence.wide 6 prog gf lb (fun x:Cl=>#[.agg #[E Y x.cnt,E Y x.sum,E Z x.mn,E Z x.mx]]) Kp S Sp N w):
  Calls prog 185 #[.func (.func gf) #[] lb,.func (.func 189) #[] #[]] w fun e w'=>∃xs,S xs/\e=.returned (.tuple #[clV ((qX Yo xs).getD qC),.bool (qX Yo xs).isSome])/\Below w.1.size w w':=by
 have a0:=zd M
 have q:=zd a5
 have a9:=zd eg
 obtain⟨b1,b2,b3,L,k⟩:=Ys w (.cells #[.func (.func 189) #[] #[]] 268) (xU qC) (xU qC)
 have y:Hid (FI (.func (.func 189) #[] #[]) 268 w I ((((w.alloc (.cells #[.func (.func 189) #[] #[]] 268)).alloc (xU qC)).alloc (xU qC)).alloc (.cells #[.bool false] 4))):=
  ⟨(Below.heap_alloc _ _ _ (by rw[k];omega)).trans b1,(Below.heap_alloc _ _ _ (by rw[k];omega)).trans b2,(Below.heap_alloc _ _ _ (by rw[k];omega)).trans b3,by have:=zr (((w.alloc (.cells #[.func (.func 189) #[] #[]] 268)).alloc (xU qC)).alloc (xU qC)) (.cells #[.bool false] 4);rw[k]at this;exact this,L.alloc (by rw[k];omega) _⟩
 have BZ:Hid (((((w.alloc (.cells #[.func (.func 189) #[] #[]] 268)).alloc (xU qC)).alloc (xU qC)).alloc (.cells #[.bool false] 4)).1.size=w.1.size+4):=by show _=_;rw[zG,k]
 clear M a5 eg b1 b2 b3 L k
 unfold xU qC at y BZ
 dsimp only at y BZ
 refine(callsIn_wide (n:=7)).1 ?_
 refine callsIn_of_wp_marks func185 rfl trivial ?_ rfl
 simp only[ntmps185,List.size_toArray,List.length_cons,List.length_nil,Nat.reduceAdd,Nat.reduceSub,Array.replicate_succ,Array.replicate_zero,List.push_toArray,List.append_toArray,List.nil_append,List.cons_append]
 gi_wp2
 obtain⟨W0,a3⟩:∃W0,((((w.alloc (.cells #[.func (.func 189) #[] #[]] 268)).alloc (.cells #[E Y 0,E Y 0,E Z 0,E Z 0] 115)).alloc (.cells #[E Y 0,E Y 0,E Z 0,E Z 0] 115)).alloc (.cells #[.bool false] 4))=W0:=⟨_,rfl⟩
 rw[a3]at y BZ ⊢
 clear a3
 have hz:W0.1.size=w.1.size+4:=ud BZ
 refine wpIn_rangeFunc_ownH (F:=Fence.wide) (n:=7) rfl (by omega) (gf:=gf) (lb:=lb) rfl trivial (ud a9) (ud a0) (ud q).t (fun W l o o' hl=>(ud q).b W l o o' (by omega)) (ud y).i5 (fun _=>rfl)
  (fun u W=>FI (.func (.func 189) #[] #[]) 268 w (qX Yo u) W)
  (fun _ _ _=>False)
  (fun s A B row hs X hr=>FI.own (by omega) hs X hr)
  (fun _ _ _ _ _ hs _ _=>hs)
  (ud y)
  (fun x a' W=>∃v,w.1.size+4<=v/\W.1[v]?=Q (.cells #[E Y x.cnt,E Y x.sum,E Z x.mn,E Z x.mx] 115 (0,0))/\a'={tmps:=#[.func (.func gf) #[] lb,.func (.func 189) #[] #[],undef,.pointer (Q ⟨w.1.size,0,I⟩),.pointer (Q ⟨w.1.size+1,0,I⟩),.bool false,.pointer (Q ⟨w.1.size+2,0,I⟩),.pointer (Q ⟨w.1.size+3,0,I⟩),.pointer (Q ⟨v,0,I⟩),.func (.func gf) #[] lb,.agg #[E Y x.cnt,E Y x.sum,E Z x.mn,E Z x.mx],undef,undef,undef,undef,undef,undef,undef,undef,undef,undef,undef,undef],defers:=[]})
  (fun x a' s A B row hs X hr=>by
   obtain⟨v,h1,h2,h3⟩:=hs
   exact⟨v,h1,zI h2 X (fun r e=>(hr r e).2),h3⟩) ?assign ?body ?done ?stop
 case assign=>
  rintro l u x W K d hK
  have a7:=d.i5.size
  have ag:=zb d.i4
  have HK:=zd hK
  have m:=zd d
  clear hK d
  gi_wp2
  refine ud HK _ _ ((KeepsOthers.alloc _ _).from _) ((ud q).of _ _ (KeepsOthers.alloc _ _) ((Below.refl _ W).alloc a7 _)) ((ud m).later ((Below.refl _ _).alloc (G _) _)) ⟨W.1.size,by omega,zr _ _,rfl⟩
 case body=>
  rintro l u x a' W hl ⟨r,hr⟩ d ⟨v,af,hx,rfl⟩ ah
  have a7:=d.i5.size
  have H:=zb hx
  have ac:=zb d.i4
  obtain⟨c1,-⟩:=zc d.i1
  obtain⟨x0,x1,x2,x3,-⟩:=zc hx
  have ad:¬v=w.1.size+2:=by omega
  have ae:¬v=w.1.size+3:=by omega
  have m:=zd d
  have HX:=zd hx
  have i:=ka Yo u x
  cases hF:qX Yo u with
  |none=>
   rw[hF]at d m i
   obtain⟨g0,g1,g2,g3,-⟩:=zc d.i3
   have a1:=fun j=>zH d.i3 j
   have ab:=fun j=>zH d.i4 j
   obtain⟨c4,-⟩:=zc d.i4
   have z:=zd i
   clear d hx hF i
   gi_wp2
   refine⟨fun _ h=>(by cases h),?_⟩
   gi_wp2
   all_goals(try go_bits)
   exact Zv (ud m) (ud z) (ud q) (Below.refl _ _)
  |some f=>
   rw[hF]at d m i
   obtain⟨g0,g1,g2,g3,-⟩:=zc d.i3
   obtain⟨c4,-⟩:=zc d.i4
   have HC:=zd (zek x f W)
   have J:=zb d.i3
   clear d hx hF
   by_cases ho:Yo x f<0
   ·have z:=zd (i.trans (show vB Yo (Q f) x=Q x by simp[vB,ho]))
    clear i
    generalize Yo x f=O at*
    gi_wp2_with (first|(refine⟨trivial,?_⟩;gi_at_call 189;refine(CallsIn.inRound l (callsIn_wide.2 (ud HC))).mono ?_;rintro e w' ⟨rfl,a⟩;have d0:=(a.cell (p:=⟨v,0,I⟩) H).trans x0;have d1:=(a.cell (p:=⟨v,1,I⟩) H).trans x1;have d2:=(a.cell (p:=⟨v,2,I⟩) H).trans x2;have d3:=(a.cell (p:=⟨v,3,I⟩) H).trans x3;have e0:=(a.cell (p:=⟨w.1.size+2,0,I⟩) J).trans g0;have e1:=(a.cell (p:=⟨w.1.size+2,1,I⟩) J).trans g1;have e2:=(a.cell (p:=⟨w.1.size+2,2,I⟩) J).trans g2;have e3:=(a.cell (p:=⟨w.1.size+2,3,I⟩) J).trans g3;have e4:=(a.cell (p:=⟨w.1.size+3,0,I⟩) ac).trans c4;have a1:=fun j=>zH ((ud m).later a).i3 j;have ab:=fun j=>zH ((ud m).later a).i4 j;have T:=zd a;clear a)|gi_in)
    all_goals(try go_bits)
    exact Zv (ud m) (ud z) (ud q) (ud T)
   ·have z:=zd (i.trans (show vB Yo (Q f) x=Q f by simp[vB,ho]))
    have ai:decide (Yo x f<0)=false:=by simpa using ho
    clear i
    generalize Yo x f=O at*
    gi_wp2_with (first|(refine⟨trivial,?_⟩;gi_at_call 189;refine(CallsIn.inRound l (callsIn_wide.2 (ud HC))).mono ?_;rintro e w' ⟨rfl,a⟩;have T:=zd a;clear a)|gi_in)
    all_goals(try go_bits)
    exact YI (ud m) (ud z) (ud q) (ud T)
 case done=>
  rintro D xs W hD hS d hK
  have m:=zd d
  have HK:=zd hK
  have HS:=zd hS
  obtain⟨fo,V⟩:∃fo,qX Yo xs=fo:=⟨_,rfl⟩
  rw[V]at d m
  obtain⟨g0,g1,g2,g3,-⟩:=zc d.i3
  obtain⟨c4,-⟩:=zc d.i4
  obtain⟨r0,r1,r2,r3,-⟩:=zc d.i2
  have a1:=fun j=>zH d.i2 j
  have aa:=zd V
  clear d hK hS V
  obtain⟨g,X⟩:∃g,fo.getD qC=g:=⟨_,rfl⟩
  obtain⟨bb,hbb⟩:∃bb,fo.isSome=bb:=⟨_,rfl⟩
  rw[X]at g0 g1 g2 g3
  rw[hbb]at c4
  have HG:=zd X
  have a8:=zd hbb
  clear X hbb
  gi_wp2
  gi_region
  gi_wp2
  have C:D≠w.1.size+1:=by omega
  have a6:=ziX (ud m).i2 (E Y g.cnt) (E Y g.sum) (E Z g.mn) (E Z g.mx)
  have a2:(((((W.setCell ⟨w.1.size+1,0,I⟩ (E Y g.cnt)).setCell ⟨w.1.size+1,1,I⟩ (E Y g.sum)).setCell ⟨w.1.size+1,2,I⟩ (E Z g.mn)).setCell ⟨w.1.size+1,3,I⟩ (E Z g.mx)).drew).1[D]?=Q (.deferred (Q [])):=by
   show((((W.setCell ⟨w.1.size+1,0,I⟩ (E Y g.cnt)).setCell ⟨w.1.size+1,1,I⟩ (E Y g.sum)).setCell ⟨w.1.size+1,2,I⟩ (E Z g.mn)).setCell ⟨w.1.size+1,3,I⟩ (E Z g.mx)).1[D]?=_
   rw[xx C,xx C,xx C,xx C];exact ud HK
  have a4:=((ud m).i5).trans (JS (w:=W) (B:=w.1.size) (g:=w.1.size+1) (Nat.le_succ _) (E Y g.cnt) (E Y g.sum) (E Z g.mn) (E Z g.mx))
  refine⟨by simp,.inl ⟨_,_,rfl,run_takeDeferred a2,?_⟩⟩
  refine⟨_,zp results185 _ _ (w.1.size+1) _ _ _ _ _ rfl rfl ((World.putObj_heap_other (fun e=>C e.symm)).trans a6) underlying115 rfl (by kernel_rfl),xs,ud HS,?_,xE a4 (G _) (by omega) a2 _⟩
  rw[ud aa,ud HG,ud a8];rfl
 case stop=>
  rintro D c u W _ _ h _
  exact h.elim
end Go.Proofs.YtndhpgciopcncaaGreatDoor
