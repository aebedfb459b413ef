import Derived.Test.YtndhpgciopcncaaGreatDoorUBrd2
import Derived.Test.YtndhpgciopcncaaGreatDoorUConf3
import Derived.Deep.RegionHeld3
open Go.Value renaming int → I
open Go.IntKind renaming i64 → J
open Option renaming none → O
open Option renaming some → E
open Nat renaming le_trans → Q
set_option linter.unusedVariables false
set_option maxRecDepth 20000
set_option maxHeartbeats 40000000
open Go.Proofs.Tryz
namespace Go.Proofs.YtndhpgciopcncaaGreatDoor
open Go.RowKit
theorem Q7{w:World}{base size n:Nat}{e:TypeId}{v:Value}{xs:List Value}(h:w.ownsRow base e size v n xs):w.drew.ownsRow base e size v n xs:=h
theorem ZM{w w':World}{a:Option Nat}(h:w.drew.grownBy w' a):w.grownBy w' a:=⟨h.os,h.tape,h.output,h.size,h.block⟩
theorem Q5(w:World)(o:Obj):(w.alloc o).drew.1[w.1.size]?=E o:=zm w o
theorem zbS(U:World)(o:Obj):U.1.size<=(U.alloc o).drew.1.size:=by show U.1.size<=(U.alloc o).1.size;rw[zL];omega
theorem JC(a b:Int)(c:1<=b)(d:b<=a):0<a/b:=Int.le_ediv_of_mul_le (by omega) (by omega)
theorem zhT{w:World}{g:Nat}{a b c d e f i:Value}{t:TypeId}{n:Nat×Nat}(h:w.1[g]?=E (.cells #[a,b,c,d,e,f,i] t n))(j k l m o p q:Value):(((((((w.setCell ⟨g,0,O⟩ j).setCell ⟨g,1,O⟩ k).setCell ⟨g,2,O⟩ l).setCell ⟨g,3,O⟩ m).setCell ⟨g,4,O⟩ o).setCell ⟨g,5,O⟩ p).setCell ⟨g,6,O⟩ q).1[g]?=E (.cells #[j,k,l,m,o,p,q] t n):=by
 have r:(w.setCell ⟨g,0,O⟩ j).1[g]?=E (.cells #[j,b,c,d,e,f,i] t n):=xy (i:=0) h j
 have s:((w.setCell ⟨g,0,O⟩ j).setCell ⟨g,1,O⟩ k).1[g]?=E (.cells #[j,k,c,d,e,f,i] t n):=xy (i:=1) r k
 have u:(((w.setCell ⟨g,0,O⟩ j).setCell ⟨g,1,O⟩ k).setCell ⟨g,2,O⟩ l).1[g]?=E (.cells #[j,k,l,d,e,f,i] t n):=xy (i:=2) s l
 have v:((((w.setCell ⟨g,0,O⟩ j).setCell ⟨g,1,O⟩ k).setCell ⟨g,2,O⟩ l).setCell ⟨g,3,O⟩ m).1[g]?=E (.cells #[j,k,l,m,e,f,i] t n):=xy (i:=3) u m
 have x:(((((w.setCell ⟨g,0,O⟩ j).setCell ⟨g,1,O⟩ k).setCell ⟨g,2,O⟩ l).setCell ⟨g,3,O⟩ m).setCell ⟨g,4,O⟩ o).1[g]?=E (.cells #[j,k,l,m,o,f,i] t n):=xy (i:=4) v o
 have y:((((((w.setCell ⟨g,0,O⟩ j).setCell ⟨g,1,O⟩ k).setCell ⟨g,2,O⟩ l).setCell ⟨g,3,O⟩ m).setCell ⟨g,4,O⟩ o).setCell ⟨g,5,O⟩ p).1[g]?=E (.cells #[j,k,l,m,o,p,i] t n):=xy (i:=5) x p
 have z:(((((((w.setCell ⟨g,0,O⟩ j).setCell ⟨g,1,O⟩ k).setCell ⟨g,2,O⟩ l).setCell ⟨g,3,O⟩ m).setCell ⟨g,4,O⟩ o).setCell ⟨g,5,O⟩ p).setCell ⟨g,6,O⟩ q).1[g]?=E (.cells #[j,k,l,m,o,p,q] t n):=xy (i:=6) y q
 exact z
def zgP(w:World)(e:Ending)(w':World):Prop:=∃(c:Cf) (g a:Nat),xU c.s c.le c.la c.wi c.ke c.qu c.n c.F c.W c.K=true/\c.fits/\e=.returned (.agg #[I J c.s,I J c.le,I J c.la,I J c.wi,I J c.ke,I J c.qu,.slice (E ⟨g,0,O⟩) c.n a])/\w'.ownsRow w.1.size 80 3 (.slice (E ⟨g,0,O⟩) c.n a) c.n (jn c.n c.F c.W c.K)/\Below w.1.size w w'
theorem zat(s le la wi ke qu:Int)(a:Option Addr)(n cap:Nat)(F0 W0 K0:Nat->Int)(w:World)(h1: -9223372036854775808<=s/\s<=9223372036854775807)(h2: -9223372036854775808<=le/\le<=9223372036854775807)(h3: -9223372036854775808<=la/\la<=9223372036854775807)(h4: -9223372036854775808<=wi/\wi<=9223372036854775807)(h5: -9223372036854775808<=ke/\ke<=9223372036854775807)(h6: -9223372036854775808<=qu/\qu<=9223372036854775807)(bj:TS w a n F0 W0 K0)(hn:n<=140737488355328)(hF:∀i,i<n-> -9223372036854775808<=F0 i/\F0 i<=9223372036854775807)(hW:∀i,i<n-> -9223372036854775808<=W0 i/\W0 i<=9223372036854775807)(hK:∀i,i<n-> -9223372036854775808<=K0 i/\K0 i<=9223372036854775807):
  Calls prog 37 #[.agg #[I J s,I J le,I J la,I J wi,I J ke,I J qu,.slice a n cap]] w (zgP w):=by
 obtain⟨C,a1,b1,P1⟩:=xS s 4 h1 (by omega)
 obtain⟨D,a2,b2,P2⟩:=xS le 100 h2 (by omega)
 obtain⟨S,a3,b3,P3⟩:=xS la 101 h3 (by omega)
 obtain⟨d,a4,b4,P4⟩:=xS wi 50 h4 (by omega)
 obtain⟨T,a5,b5,P5⟩:=xS ke 1001 h5 (by omega)
 obtain⟨G,a6,b6,P6⟩:=xS qu 400 h6 (by omega)
 obtain⟨y0,y1,L,yz⟩:=box2 w (.cells #[I J s,I J le,I J la,I J wi,I J ke,I J qu,.slice a n cap] 27) (.cells #[I J 0,I J 0,I J 0,I J 0,I J 0,I J 0,.slice O 0 0] 27)
 have aN:=fun W=>zd (P1 W)
 have aO:=fun W=>zd (P2 W)
 have aP:=fun W=>zd (P3 W)
 have aQ:=fun W=>zd (P4 W)
 have V:=fun W=>zd (P5 W)
 have aR:=fun W=>zd (P6 W)
 clear P1 P2 P3 P4 P5 P6 h1 h2 h3 h4 h5 h6
 have hl:=za y0
 obtain⟨c0,c1,c2,c3,c4,c5,-⟩:=zc y0
 have bv:=zd bj
 have Y0:=zd y0
 have Y1:=zd y1
 have aK:=zd L
 have YZ:=zd yz
 clear y0 y1 L yz bj
 have e1:IntKind.i64.wrap (1+C)=1+C:=by rw[IntKind.wrap_i64];omega
 have e2:IntKind.i64.wrap (1+D)=1+D:=by rw[IntKind.wrap_i64];omega
 have e4:IntKind.i64.wrap (1+d)=1+d:=by rw[IntKind.wrap_i64];omega
 have e6:IntKind.i64.wrap (1+G)=1+G:=by rw[IntKind.wrap_i64];omega
 have HF:=zd hF
 have HW:=zd hW
 have bp:=zd hK
 clear hF hW hK
 go_enter func37,ntmps37
 go_wp2_with fail
 generalize((w.alloc (.cells #[I J s,I J le,I J la,I J wi,I J ke,I J qu,.slice a n cap] 27)).alloc (.cells #[I J 0,I J 0,I J 0,I J 0,I J 0,I J 0,.slice O 0 0] 27))=X at*
 rename_i K1 hK1
 refine(fun aY:K1 ?aa ?ww=>?main) ?hc
 case main=>
  go_region_held3 (fun w'=>w'.cell? ⟨w.1.size,0,O⟩=E (I J s)/\w'.cell? ⟨w.1.size,1,O⟩=E (I J le)/\w'.cell? ⟨w.1.size,2,O⟩=E (I J la)/\w'.cell? ⟨w.1.size,3,O⟩=E (I J wi)/\w'.cell? ⟨w.1.size,4,O⟩=E (I J ke)/\w'.cell? ⟨w.1.size,5,O⟩=E (I J qu)) (go_keep) (first
   |(go_at_call 31;(first|(with_reducible refine(ud (aN _)).mono ?_)|(with_reducible refine(ud (aO _)).mono ?_)|(with_reducible refine(ud (aP _)).mono ?_)|(with_reducible refine(ud (aQ _)).mono ?_)|(with_reducible refine(ud (V _)).mono ?_)|(with_reducible refine(ud (aR _)).mono ?_));rintro e W ⟨rfl,hw⟩;subst hw))
  all_goals exact aY
 case hc=>
  refine hK1 _ _ ?_
  clear aN aO aP aQ V aR c0 c1 c2 c3 c4 c5 hK1 e1 e2 e4 e6
  have q0:=zm X (.cells #[I J (1+C),I J (1+D),I J S,I J (1+d),I J T,I J (1+G),.slice O 0 0] 27)
  have qz:=zL X (.cells #[I J (1+C),I J (1+D),I J S,I J (1+d),I J T,I J (1+G),.slice O 0 0] 27)
  have b0:Below X.1.size X (X.alloc (.cells #[I J (1+C),I J (1+D),I J S,I J (1+d),I J T,I J (1+G),.slice O 0 0] 27)).drew:=((Below.refl _ _).alloc (Nat.le_refl _) _).drew
  have bb:(X.alloc (.cells #[I J (1+C),I J (1+D),I J S,I J (1+d),I J T,I J (1+G),.slice O 0 0] 27)).drew.1[X.1.size]?=E (.cells #[I J (1+C),I J (1+D),I J S,I J (1+d),I J T,I J (1+G),.slice O 0 0] 27 (0,0)):=q0
  generalize(X.alloc (.cells #[I J (1+C),I J (1+D),I J S,I J (1+d),I J T,I J (1+G),.slice O 0 0] 27)).drew=Y at*
  have bm:=zd b0
  have bq:=zd bb
  clear q0 qz b0 bb
  go_wp2_with fail
  go_loopw [4,5,6,7] (fun i x f v wr=>∃(k:Nat) (F W K:Nat->Int) (tv:Value),k<=4/\k<=n/\i=I J k/\wr.1[X.1.size]?=E (.cells #[I J (1+C),I J (1+D),I J S,I J (1+d),I J T,I J (1+G),tv] 27 (0,0))/\wr.ownsRow X.1.size 80 3 tv k (jn k F W K)/\kD (1+d) k F W K/\Below X.1.size X wr) (fun i _ _ _ _=>n-(intOf i).toNat)
  case atStart=>exact⟨0,fun _=>0,fun _=>0,fun _=>0,.slice O 0 0,by omega,by omega,rfl,ud bq,World.ownsRow_nil _ _ _ _,kD.none _ _ _ _,ud bm⟩
  case round=>
   obtain⟨k,F,W,K,tv,bR,bS,rfl,M,l,y,Z⟩:=hrel
   obtain⟨ta,tc,bD⟩:=zS l
   subst bD
   have L:Below w.1.size w wr:=(ud aK).trans (Z.mono (ud aK).size)
   have af:=(Z.block w.1.size hl).trans (ud Y0)
   obtain⟨-,-,-,-,-,-,z6,-⟩:=zc af
   obtain⟨v0,v1,v2,v3,v4,v5,v6,-⟩:=zc M
   have vf:=fun j=>zE M j
   have bf:=za M
   have bg:=za af
   have bG:(k:Int)<=4:=by omega
   by_cases ay:k<n
   ·have bL:(k:Int)<n:=by omega
    by_cases bT:k<4
    ·have bI:(k:Int)<4:=by omega
     obtain⟨b,aH,rfl,al,b9⟩:=ud bv (by omega)
     obtain⟨x0,x1,x2⟩:=b9 k ay
     have y0:=(L.cell (p:=⟨b,aH+k*3,O⟩) al).trans x0
     have y1:=(L.cell (p:=⟨b,aH+k*3+1,O⟩) al).trans x1
     have y2:=(L.cell (p:=⟨b,aH+k*3+2,O⟩) al).trans x2
     have bF:=Nat.lt_of_lt_of_le al L.size
     obtain⟨f,f0,f1,PF⟩:=xS (F0 k) (k+1) (ud HF k ay) (by omega)
     have aS:=fun W=>zd (PF W)
     clear b9 x0 x1 x2 PF al
     generalize bO:F0 k=fk at*
     generalize bx:W0 k=wk at*
     generalize bw:K0 k=kk at*
     have aG:=ud HW k ay
     have aE:=ud bp k ay
     rw[bx]at aG
     rw[bw]at aE
     have bk:X.1.size<=wr.1.size:=Z.size
     have aL:Hid (∀j,(Value.slice ta k tc).ownBlock=E j->X.1.size<=j):=fun j hj=>(l.lt j hj).1
     have av:=zd (zu M l (by decide))
     have aM:Hid (∀j,(Value.slice ta k tc).ownBlock=E j->¬j=wr.1.size):=fun j hj e=>by have:=(l.lt j hj).2;omega
     have ux:=zm wr (.cells #[I J fk,I J wk,I J kk] 80)
     have uz:=zL wr (.cells #[I J fk,I J wk,I J kk] 80)
     have ak:Below wr.1.size wr (wr.alloc (.cells #[I J fk,I J wk,I J kk] 80)):=(Below.refl _ _).alloc (Nat.le_refl _) _
     have aW:=zd (xm l ak)
     have uh:=(ak.block X.1.size bf).trans M
     have aV:=zd uh
     have aX:=zd ux
     have aU:=zd (Z.trans (ak.mono bk))
     have a0:Hid (X.1.size<=(wr.alloc (.cells #[I J fk,I J wk,I J kk] 80)).1.size):=Q bk ak.size
     obtain⟨-,-,-,-,-,-,u6,-⟩:=zc uh
     have uf:=fun j=>zE uh j
     obtain⟨-,bV,bW,-⟩:=zc ux
     have ul:X.1.size<(wr.alloc (.cells #[I J fk,I J wk,I J kk] 80)).1.size:=za uh
     have bX:wr.1.size<(wr.alloc (.cells #[I J fk,I J wk,I J kk] 80)).1.size:=za ux
     clear ak ux uh uz
     have aB:f=0\/∃j:Nat,f=(j:Int)+1:=by
      by_cases e0:f=0
      ·exact .inl e0
      ·exact .inr ⟨(f-1).toNat,by omega⟩
     rcases aB with rfl|⟨j,rfl⟩
     ·go_wp2_with(first|(go_at_call 31;refine(ud (aS _)).mono ?_;rintro e W1 ⟨rfl,R⟩;subst R))
      generalize(wr.alloc (.cells #[I J fk,I J wk,I J kk] 80))=U at*
      have m:zT (1+d) W (-1)=(1+d):=by simp[zT]
      have au:=y.wt (wi:=1+d) ⟨by omega,by omega⟩ (f:= -1) (by omega) (by omega)
      rw[m]at au
      obtain⟨R,ar⟩:=au
      have ap:0<1000/(1+d):=JC 1000 (1+d) R ar
      obtain⟨rq,q0,q1,PQ⟩:=xS wk (1000/(1+d)) aG ap
      obtain⟨rk,k0,k1,PK⟩:=xS kk 1001 aE (by omega)
      have az:=fun W=>zd (PQ W)
      have aA:=fun W=>zd (PK W)
      have aF:1000/(1+d)<=1000:=Int.ediv_le_self _ (by omega)
      have bE:IntKind.i64.wrap (1000/(1+d))=1000/(1+d):=by rw[IntKind.wrap_i64];omega
      have ac:(1+d)*(1+rq)<=1000:=Int.le_trans (Int.mul_le_mul_of_nonneg_left (by omega) (by omega)) (Int.mul_ediv_self_le (by omega))
      have N:1<=(1+d)*(1+rq):=Int.le_trans (by omega) (Int.mul_le_mul R (show 1<=1+rq by omega) (by omega) (by omega))
      have m1:IntKind.i64.wrap (1+rq)=1+rq:=by rw[IntKind.wrap_i64];omega
      have m2:IntKind.i64.wrap ((1+d)*(1+rq))=(1+d)*(1+rq):=by generalize(1+d)*(1+rq)=z at*;rw[IntKind.wrap_i64];omega
      have bd:¬(1+d)=0:=by omega
      have ah:=zd (y.more (f:= -1) (q:=1+rq) (p:=rk) (by omega) (by omega) (by omega) (by rw[m];exact N) (by rw[m];exact ac) ⟨k0,by omega⟩)
      rw[m]at ah
      have bC:Int.tdiv 1000 ((1+d))=1000/(1+d):=Int.tdiv_eq_ediv_of_nonneg (by omega)
      clear PQ PK ap aF ac N R ar q0 q1 k0 k1 m
      go_region_law (first
       |(refine ji rfl (.tmp 68) (.tmp 70) _ rfl _ _ (by rfl) (by rfl) _ (ud (az _)) ?_)
       |(refine ji rfl (.tmp 75) (.const (I J 1001)) _ rfl _ _ (by rfl) (by rfl) _ (ud (aA _)) ?_)
       |(refine kZ rfl (.tmp 64) (.tmp 78) 25 80 3 24 rfl underlying25 Tryz.infoTierR rfl (by decide) X.1.size (.slice ta k tc) k (jn k F W K) (by rfl) (Q7 ((ud aW).alloc _)) U.1.size [I J (-1),I J ((1+d)*(1+rq)),I J rk] 80 (0,0) (by rfl) (Q5 U _) rfl (by simp[Value.oneCell']) ?h63 ?hby ?hbs ?_;(case h63=>(simp only[maxLen];omega));(case hby=>omega);(case hbs=>exact Q (ud a0) (zbS _ _));intro g3 a9 w5 u o ai bc;have r:zo (fun k'=>(Value.slice ta k tc).ownBlock=E k') U w5:=zo.grown ((zo.refl _ _).alloc _) (ZM o) (fun k hk _=>hk);have h:=r.heap (ud aV) (fun e=>ud av _ e rfl);have ad:=r.heap (ud aX) (fun e=>ud aM _ e rfl);obtain⟨-,-,-,-,-,-,d6,-⟩:=zc h;have df:=fun j=>zE h j;obtain⟨-,d1,d2,-⟩:=zc ad;have dl:X.1.size<w5.1.size:=za h;have dx:wr.1.size<w5.1.size:=za ad;have ae:¬wr.1.size=X.1.size:=(by omega);have a8:=zd u;have ag:=zd r;have V:=zd h;clear u r h ad o ai))
      all_goals
       go_wp2_with fail
       go_roundw
       case rel=>
        have ao:zo (fun k=>k=X.1.size) w5 (w5.setCell ⟨X.1.size,6,O⟩ (.slice (E ⟨g3,0,O⟩) (k+1) a9)):=zi (zo.refl _ _) rfl
        have ho:=ud a8
        refine⟨k+1,_,_,_,.slice (E ⟨g3,0,O⟩) (k+1) a9,by omega,by omega,by go_num,xy (i:=6) (ud V) _,?_,ud ah,?_⟩
        ·rw[Q6];exact zk ho ao (zu (ud V) ho (by decide))
        ·have aj:=(ud ag).below (B:=X.1.size) (ud a0) (fun k hk=>ud aL k hk)
         exact(ud aU).trans (aj.trans (ao.below (Q (ud a0) aj.size) (fun k e=>by omega)))
       case measure=>simp[intOf];omega
     ·have bY:IntKind.i64.wrap ((j:Int)+1-1)=j:=by rw[IntKind.wrap_i64];omega
      have bP:(0:Int)<=j:=by omega
      have bQ:(j:Int)<k:=by omega
      obtain⟨g,gc,an,_,aC⟩:=l.form (by omega)
      cases an
      have gw:wr.cell? ⟨g,j*3+1,O⟩=E (I J (W j)):=by rw[l.cellAt (j*3+1) (by omega),YH _ _ _ _ _ (by omega),zch]
      have bN:(wr.alloc (.cells #[I J fk,I J wk,I J kk] 80)).cell? ⟨g,j*3+1,O⟩=E (I J (W j)):=(((Below.refl wr.1.size wr).alloc (Nat.le_refl _) _).cell (p:=⟨g,j*3+1,O⟩) aC).trans gw
      go_wp2_with(first|(go_at_call 31;refine(ud (aS _)).mono ?_;rintro e W1 ⟨rfl,R⟩;subst R))
      generalize(wr.alloc (.cells #[I J fk,I J wk,I J kk] 80))=U at*
      have m:zT (1+d) W (j)=W j:=by unfold zT;rw[if_neg (by omega)];simp
      have au:=y.wt (wi:=1+d) ⟨by omega,by omega⟩ (f:=j) (by omega) (by omega)
      rw[m]at au
      obtain⟨R,ar⟩:=au
      have ap:0<1000/(W j):=JC 1000 (W j) R ar
      obtain⟨rq,q0,q1,PQ⟩:=xS wk (1000/(W j)) aG ap
      obtain⟨rk,k0,k1,PK⟩:=xS kk 1001 aE (by omega)
      have az:=fun W=>zd (PQ W)
      have aA:=fun W=>zd (PK W)
      have aF:1000/(W j)<=1000:=Int.ediv_le_self _ (by omega)
      have bE:IntKind.i64.wrap (1000/(W j))=1000/(W j):=by rw[IntKind.wrap_i64];omega
      have ac:(W j)*(1+rq)<=1000:=Int.le_trans (Int.mul_le_mul_of_nonneg_left (by omega) (by omega)) (Int.mul_ediv_self_le (by omega))
      have N:1<=(W j)*(1+rq):=Int.le_trans (by omega) (Int.mul_le_mul R (show 1<=1+rq by omega) (by omega) (by omega))
      have m1:IntKind.i64.wrap (1+rq)=1+rq:=by rw[IntKind.wrap_i64];omega
      have m2:IntKind.i64.wrap ((W j)*(1+rq))=(W j)*(1+rq):=by generalize(W j)*(1+rq)=z at*;rw[IntKind.wrap_i64];omega
      have bd:¬(W j)=0:=by omega
      have ah:=zd (y.more (f:=j) (q:=1+rq) (p:=rk) (by omega) (by omega) (by omega) (by rw[m];exact N) (by rw[m];exact ac) ⟨k0,by omega⟩)
      rw[m]at ah
      have bC:Int.tdiv 1000 (W j)=1000/(W j):=Int.tdiv_eq_ediv_of_nonneg (by omega)
      clear PQ PK ap aF ac N R ar q0 q1 k0 k1 m
      go_region_law (first
       |(refine ji rfl (.tmp 68) (.tmp 70) _ rfl _ _ (by rfl) (by rfl) _ (ud (az _)) ?_)
       |(refine ji rfl (.tmp 75) (.const (I J 1001)) _ rfl _ _ (by rfl) (by rfl) _ (ud (aA _)) ?_)
       |(refine kZ rfl (.tmp 64) (.tmp 78) 25 80 3 24 rfl underlying25 Tryz.infoTierR rfl (by decide) X.1.size (.slice (E ⟨g,0,O⟩) k tc) k (jn k F W K) (by rfl) (Q7 ((ud aW).alloc _)) U.1.size [I J (j),I J ((W j)*(1+rq)),I J rk] 80 (0,0) (by rfl) (Q5 U _) rfl (by simp[Value.oneCell']) ?h63 ?hby ?hbs ?_;(case h63=>(simp only[maxLen];omega));(case hby=>omega);(case hbs=>exact Q (ud a0) (zbS _ _));intro g3 a9 w5 u o ai bc;have r:zo (fun k'=>(Value.slice (E ⟨g,0,O⟩) k tc).ownBlock=E k') U w5:=zo.grown ((zo.refl _ _).alloc _) (ZM o) (fun k hk _=>hk);have h:=r.heap (ud aV) (fun e=>ud av _ e rfl);have ad:=r.heap (ud aX) (fun e=>ud aM _ e rfl);obtain⟨-,-,-,-,-,-,d6,-⟩:=zc h;have df:=fun j=>zE h j;obtain⟨-,d1,d2,-⟩:=zc ad;have dl:X.1.size<w5.1.size:=za h;have dx:wr.1.size<w5.1.size:=za ad;have ae:¬wr.1.size=X.1.size:=(by omega);have a8:=zd u;have ag:=zd r;have V:=zd h;clear u r h ad o ai))
      all_goals
       go_wp2_with fail
       go_roundw
       case rel=>
        have ao:zo (fun k=>k=X.1.size) w5 (w5.setCell ⟨X.1.size,6,O⟩ (.slice (E ⟨g3,0,O⟩) (k+1) a9)):=zi (zo.refl _ _) rfl
        have ho:=ud a8
        refine⟨k+1,_,_,_,.slice (E ⟨g3,0,O⟩) (k+1) a9,by omega,by omega,by go_num,xy (i:=6) (ud V) _,?_,ud ah,?_⟩
        ·rw[Q6];exact zk ho ao (zu (ud V) ho (by decide))
        ·have aj:=(ud ag).below (B:=X.1.size) (ud a0) (fun k hk=>ud aL k hk)
         exact(ud aU).trans (aj.trans (ao.below (Q (ud a0) aj.size) (fun k e=>by omega)))
       case measure=>simp[intOf];omega
    ·have bH:decide ((k:Int)<4)=false:=by simp;omega
     have P:=(Z.block (w.1.size+1) (by have:=ud YZ;omega)).trans (ud Y1)
     obtain⟨t0,t1,t2,t3,t4,t5,t6,-⟩:=zc P
     have tf:=fun j=>zE P j
     have tl:=za P
     have aw:=zd P
     have a7:=zd l
     have bo:=zd M
     have aJ:=zd Z
     have t:=zd L
     have ax:=zd y
     clear P l Z L y af
     by_cases ba:k=0
     ·exfalso;omega
     ·have bA:((k:Int)==0)=false:=by simp;omega
      clear M
      go_wp2_with fail
      have hf:=zhT (ud aw) (I J (1+C)) (I J (1+D)) (I J S) (I J (1+d)) (I J T) (I J (1+G)) (.slice ta k tc)
      have ab:zo (fun k=>k=w.1.size+1) wr (((((((wr.setCell ⟨w.1.size+1,0,O⟩ (I J (1+C))).setCell ⟨w.1.size+1,1,O⟩ (I J (1+D))).setCell ⟨w.1.size+1,2,O⟩ (I J S)).setCell ⟨w.1.size+1,3,O⟩ (I J (1+d))).setCell ⟨w.1.size+1,4,O⟩ (I J T)).setCell ⟨w.1.size+1,5,O⟩ (I J (1+G))).setCell ⟨w.1.size+1,6,O⟩ (.slice ta k tc)):=zi (zi (zi (zi (zi (zi (zi (zo.refl _ _) rfl) rfl) rfl) rfl) rfl) rfl) rfl
      refine bodyPost_ret (v:=.agg #[I J (1+C),I J (1+D),I J S,I J (1+d),I J T,I J (1+G),.slice ta k tc]) (results_cell_row results37 _ _ (w.1.size+1) _ _ _ _ rfl hf underlying27 rfl (by kernel_rfl)) rfl ?_
      have A:=ud a7
      obtain⟨g,gc,an,_,aC⟩:=A.form (by omega)
      cases an
      have bl:X.1.size=w.1.size+2:=ud YZ
      obtain⟨k1,k2⟩:=YF (c:=⟨1+C,1+D,S,1+d,T,1+G,k,F,W,K⟩) (by dsimp only;omega) (by dsimp only;omega) (by dsimp only;omega) (by dsimp only;omega) (by dsimp only;omega) (by dsimp only;omega) (by dsimp only;omega) (ud ax)
      exact⟨⟨1+C,1+D,S,1+d,T,1+G,k,F,W,K⟩,g,tc,k1,k2,rfl,kj (zk A ab (fun j hj e=>by have:=(A.lt j hj).1;omega)) (by omega),(ud t).trans (ab.below (ud t).size (fun j e=>by omega))⟩
   ·have bK:decide ((k:Int)<n)=false:=by simp;omega
    have P:=(Z.block (w.1.size+1) (by have:=ud YZ;omega)).trans (ud Y1)
    obtain⟨t0,t1,t2,t3,t4,t5,t6,-⟩:=zc P
    have tf:=fun j=>zE P j
    have tl:=za P
    have aw:=zd P
    have a7:=zd l
    have bo:=zd M
    have aJ:=zd Z
    have t:=zd L
    have ax:=zd y
    clear P l Z L y af
    by_cases ba:k=0
    ·subst ba
     have hA:=(Below.refl wr.1.size wr).alloc (Nat.le_refl _) (.cells #[I J (-1),I J (1+d),I J 0] 80)
     have aT:=zd ((ud a7).alloc (.cells #[I J (-1),I J (1+d),I J 0] 80))
     have aD:=(hA.block X.1.size bf).trans M
     have br:=zd (World.news_of_block (cs:=#[I J (-1),I J (1+d),I J 0]) (zm wr (.cells #[I J (-1),I J (1+d),I J 0] 80)))
     have b7:X.1.size<=(wr.alloc (.cells #[I J (-1),I J (1+d),I J 0] 80)).1.size:=Q (ud aJ).size hA.size
     have aI:=zd hA
     have bn:=zd aD
     have av:=zd (zu aD (ud aT) (by decide))
     have bh:=(hA.block (w.1.size+1) tl).trans (ud aw)
     have bu:=zd bh
     have bs:Hid (∀j,(Value.slice ta 0 tc).ownBlock=E j->¬j=w.1.size+1):=fun j hj e=>by have:=((ud a7).lt j hj).1;have:=ud YZ;omega
     have ae:¬w.1.size+1=X.1.size:=by have:=ud YZ;omega
     have bM:¬X.1.size=w.1.size+1:=fun e=>ae e.symm
     have b8:(0+1)*24<=140737488355328:=by omega
     have bB:0+1<=maxLen:=by simp only[maxLen];omega
     clear hA aD bh M
     go_wp2_with(first|(at_builtin;refine xJ rfl _ _ 25 rfl X.1.size 80 _ 3 24 underlying25 Tryz.infoTierR rfl (by decide) (.slice ta 0 tc) 0 (jn 0 F W K) (by simp[Act.eval]) (ud aT) ⟨wr.1.size,0,O⟩ 1 1 [I J (-1),I J (1+d),I J 0] (by simp[Act.eval]) rfl (ud br) (by simp[Value.oneCell']) (by decide) bB b8 b7 ?_;intro g H w2 u be am ai bJ;have r:zo (fun k'=>(Value.slice ta 0 tc).ownBlock=E k') (wr.alloc (.cells #[I J (-1),I J (1+d),I J 0] 80)) w2:=zo.grown (zo.refl _ _) am (fun k hk _=>hk);have h:=r.heap (ud bn) (fun e=>ud av _ e rfl);have aq:=r.heap (ud bu) (fun e=>ud bs _ e rfl);obtain⟨d0,d1,d2,d3,d4,d5,d6,-⟩:=zc h;have df:=fun j=>zE h j;obtain⟨t0,t1,t2,t3,t4,t5,t6,-⟩:=zc aq;have tf:=fun j=>zE aq j;have dl:=za h;have bU:=za aq;have a8:=zd u;have ag:=zd r;have V:=zd h;have bt:=zd aq;clear u be am ai r h aq)|go_in)
     have bz:zo (fun k=>k=X.1.size) w2 (w2.setCell ⟨X.1.size,6,O⟩ (.slice (E ⟨g,0,O⟩) (0+1) H)):=zi (zo.refl _ _) rfl
     have hf:=zhT (bz.heap (ud bt) ae) (I J (1+C)) (I J (1+D)) (I J S) (I J (1+d)) (I J T) (I J (1+G)) (.slice (E ⟨g,0,O⟩) (0+1) H)
     have ab:zo (fun k=>k=X.1.size\/k=w.1.size+1) w2 ((((((((w2.setCell ⟨X.1.size,6,O⟩ (.slice (E ⟨g,0,O⟩) (0+1) H)).setCell ⟨w.1.size+1,0,O⟩ (I J (1+C))).setCell ⟨w.1.size+1,1,O⟩ (I J (1+D))).setCell ⟨w.1.size+1,2,O⟩ (I J S)).setCell ⟨w.1.size+1,3,O⟩ (I J (1+d))).setCell ⟨w.1.size+1,4,O⟩ (I J T)).setCell ⟨w.1.size+1,5,O⟩ (I J (1+G))).setCell ⟨w.1.size+1,6,O⟩ (.slice (E ⟨g,0,O⟩) (0+1) H)):=zi (zi (zi (zi (zi (zi (zi (zi (zo.refl _ _) (.inl rfl)) (.inr rfl)) (.inr rfl)) (.inr rfl)) (.inr rfl)) (.inr rfl)) (.inr rfl)) (.inr rfl)
     refine bodyPost_ret (v:=.agg #[I J (1+C),I J (1+D),I J S,I J (1+d),I J T,I J (1+G),.slice (E ⟨g,0,O⟩) (0+1) H]) (results_cell_row results37 _ _ (w.1.size+1) _ _ _ _ rfl hf underlying27 rfl (by kernel_rfl)) rfl ?_
     have A:=ud a8
     have bl:X.1.size=w.1.size+2:=ud YZ
     have m:zT (1+d) W (-1)*1=1+d:=by simp[zT]
     have bi:=(ud ax).more (f:= -1) (q:=1) (p:=0) (by omega) (by omega) (by omega) (by rw[m];omega) (by rw[m];omega) (by omega)
     rw[m]at bi
     obtain⟨k1,k2⟩:=YF (c:=⟨1+C,1+D,S,1+d,T,1+G,0+1,QY F 0 (-1),QY W 0 (1+d),QY K 0 0⟩) (by dsimp only;omega) (by dsimp only;omega) (by dsimp only;omega) (by dsimp only;omega) (by dsimp only;omega) (by dsimp only;omega) (by dsimp only;omega) bi
     rw[<-Q6]at A
     have bg:∀j,(Value.slice (E ⟨g,0,O⟩) (0+1) H).ownBlock=E j->X.1.size<j:=fun j hj=>by
      have h1:=(A.lt j hj).1
      have h2:=zu (ud V) A (by decide) j hj
      omega
     have aZ:Below w.1.size w w2:=(ud t).trans (((ud aI).mono (ud t).size).trans ((ud ag).below (Q (ud t).size (ud aI).size) (fun j hj=>by have:=((ud a7).lt j hj).1;omega)))
     exact⟨⟨1+C,1+D,S,1+d,T,1+G,0+1,QY F 0 (-1),QY W 0 (1+d),QY K 0 0⟩,g,H,k1,k2,rfl,kj (zk A ab (fun j hj e=>by have:=bg j hj;omega)) (by omega),aZ.trans (ab.below aZ.size (fun j e=>by omega))⟩
    ·have bA:((k:Int)==0)=false:=by simp;omega
     clear M
     go_wp2_with fail
     have hf:=zhT (ud aw) (I J (1+C)) (I J (1+D)) (I J S) (I J (1+d)) (I J T) (I J (1+G)) (.slice ta k tc)
     have ab:zo (fun k=>k=w.1.size+1) wr (((((((wr.setCell ⟨w.1.size+1,0,O⟩ (I J (1+C))).setCell ⟨w.1.size+1,1,O⟩ (I J (1+D))).setCell ⟨w.1.size+1,2,O⟩ (I J S)).setCell ⟨w.1.size+1,3,O⟩ (I J (1+d))).setCell ⟨w.1.size+1,4,O⟩ (I J T)).setCell ⟨w.1.size+1,5,O⟩ (I J (1+G))).setCell ⟨w.1.size+1,6,O⟩ (.slice ta k tc)):=zi (zi (zi (zi (zi (zi (zi (zo.refl _ _) rfl) rfl) rfl) rfl) rfl) rfl) rfl
     refine bodyPost_ret (v:=.agg #[I J (1+C),I J (1+D),I J S,I J (1+d),I J T,I J (1+G),.slice ta k tc]) (results_cell_row results37 _ _ (w.1.size+1) _ _ _ _ rfl hf underlying27 rfl (by kernel_rfl)) rfl ?_
     have A:=ud a7
     obtain⟨g,gc,an,_,aC⟩:=A.form (by omega)
     cases an
     have bl:X.1.size=w.1.size+2:=ud YZ
     obtain⟨k1,k2⟩:=YF (c:=⟨1+C,1+D,S,1+d,T,1+G,k,F,W,K⟩) (by dsimp only;omega) (by dsimp only;omega) (by dsimp only;omega) (by dsimp only;omega) (by dsimp only;omega) (by dsimp only;omega) (by dsimp only;omega) (ud ax)
     exact⟨⟨1+C,1+D,S,1+d,T,1+G,k,F,W,K⟩,g,tc,k1,k2,rfl,kj (zk A ab (fun j hj e=>by have:=(A.lt j hj).1;omega)) (by omega),(ud t).trans (ab.below (ud t).size (fun j e=>by omega))⟩
end Go.Proofs.YtndhpgciopcncaaGreatDoor
