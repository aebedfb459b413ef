import Derived.Test.YtndhpgciopcncaaGreatDoorHCnt0
import Derived.Sort.Grow
import Derived.Deep.Draws
import Derived.Test.YtndhpgciopcncaaGreatDoorHSeq5
open Go renaming World → E
open Option renaming some → Q
open Go.Value renaming int → Y
open Go.IntKind renaming i32 → Z
open Nat renaming le_refl → G
open Go renaming Value → P
open Nat renaming le_trans → R
set_option linter.unusedVariables false
set_option maxRecDepth 100000
set_option maxHeartbeats 4000000
open Go.Proofs.Tryz
namespace Go.Proofs.YtndhpgciopcncaaGreatDoor
open Go.ChangeMaps (setBlock)
open Go.RowKit Go.Maps Go.Shelf
variable {c:Cf} {sr tm:Int} {gb k lb n q s:Nat} {ex:Nat->Prop} {tv:P} {W W' w:E}
def vT(a b:Int):Int:=if a<b then-1 else if b<a then 1 else 0
theorem Xv(a:Int)(w:E):Calls prog 227 #[I a] w fun e w'=>e=.returned (.bool false)/\w'=w:=by
 have h:(a==a)=true:=by simp
 go_enter func227,ntmps227;go_wp2_with fail;go_ret;exact⟨by simp,rfl⟩
theorem kY(a b:Int)(w:E):Calls prog 162 #[I a,I b] w fun e w'=>e=.returned (I (vT a b))/\w'=w:=by
 rcases Int.lt_trichotomy a b with h|h|h
 ·rw[show vT a b= -1 from by simp[vT,h]]
  go_enter func162,ntmps162;go_wp2_with(go_at_call 227;refine(Xv _ _).mono ?_;rintro e w1 ⟨rfl,rfl⟩);go_ret;exact⟨rfl,rfl⟩
 ·rw[show vT a b=0 from by simp[vT,h]]
  have c:¬a<b:=by omega
  have d:¬b<a:=by omega
  have f:decide (a<b)=false:=by simpa using c
  have g:decide (b<a)=false:=by simpa using d
  go_enter func162,ntmps162;go_wp2_with(go_at_call 227;refine(Xv _ _).mono ?_;rintro e w1 ⟨rfl,rfl⟩);go_ret;exact⟨rfl,rfl⟩
 ·have c:¬a<b:=by omega
  rw[show vT a b=1 from by simp[vT,h,c]]
  have f:decide (a<b)=false:=by simpa using c
  go_enter func162,ntmps162;go_wp2_with(go_at_call 227;refine(Xv _ _).mono ?_;rintro e w1 ⟨rfl,rfl⟩);go_ret;exact⟨rfl,rfl⟩
def orL:List Int->Int
 |[]=>0
 |a::r=>if a=0 then orL r else a
theorem ziO{xs:List Int}(h:∀j,j<k->xs[j]?=Q 0)(c:k<=xs.length):orL xs=orL (xs.drop k):=by
 induction k generalizing xs with
 |zero=>rfl
 |succ k d=>
  cases xs with
  |nil=>simp at c
  |cons a r=>
   have b:=h 0 (by omega);simp at b;subst b;show(if(0:Int)=0 then orL r else 0)=orL (r.drop k)
   rw[if_pos rfl];exact d (fun j e=>by have:=h (j+1) (by omega);simpa using this) (by simpa using c)
theorem ziN(xs:List Int)(n:xs.length<=1000)(w:E)(g:Nat)(c:∀(k:Nat) (x:Int),xs[k]?=Q x->w.cell? (U g k)=Q (I x)):
  Calls prog 163 #[.slice (Q (U g 0)) xs.length xs.length] w fun e w'=>e=.returned (I (orL xs))/\w'=w:=by
 go_enter func163,ntmps163;go_wp2_with fail;go_loopw [5,8] (fun _ i wr=>∃k:Nat,k<=xs.length/\i=I k/\wr=w/\∀j,j<k->xs[j]?=Q 0) (fun _ i _=>xs.length-(intOf i).toNat);case atStart=>exact⟨0,Nat.zero_le _,rfl,rfl,fun j h=>absurd h (Nat.not_lt_zero _)⟩
 case round=>
  obtain⟨k,t,rfl,rfl,d⟩:=hrel;by_cases a:k<xs.length
  ·obtain⟨x,l⟩:=vr a;have r:=c k x l;have o:(k:Int)<xs.length:=(by omega);have m:=ze l;have b:=ze d;have p:=ze c;clear l d c;by_cases f:x=0
   ·subst f;go_wp2_with fail;go_roundw;case rel=>
     refine⟨k+1,by omega,by simp,trivial,fun j s=>?_⟩;by_cases e:j=k
     ·rw[e];exact ud m
     ·exact ud b j (by omega)
    case measure=>simp[intOf];omega
   ·have q:(x==0)=false:=(by simpa using f);go_wp2_with fail;go_ret;refine⟨?_,rfl⟩;rw[ziO (ud b) (Nat.le_of_lt a)];obtain⟨n,ex⟩:=List.getElem?_eq_some_iff.1 (ud m);rw[List.drop_eq_getElem_cons n,ex];show _=Ending.returned (I (if x=0 then _ else x))
    rw[if_neg f];rfl
  ·obtain rfl:k=xs.length:=(by omega);have b:=ze d;clear c d;go_wp2_with fail;go_ret;refine⟨?_,rfl⟩;rw[ziO (ud b) (G _),List.drop_length];rfl
attribute [local go_sem] Oper.semAt_some
def qO(c:Cf)(sr tm:Int)(k:Nat):Sg:=⟨(k:Int),sr,tm/c.wh (k:Int)⟩
def qe(c:Cf)(sr tm:Int)(k:Nat):List Sg:=(List.range k).map (qO c sr tm)
theorem vm(c:Cf)(sr tm:Int)(k:Nat):qe c sr tm (k+1)=qe c sr tm k++[qO c sr tm k]:=by simp[qe,List.range_succ]
theorem Ye(c:Cf)(sr tm:Int)(k:Nat):(qe c sr tm k).length=k:=by simp[qe]
theorem QP(b:c.ok)(d:0<=sr/\sr<4)(a:0<=tm/\tm<=100000)(i:k<c.n):(qO c sr tm k).wf:=by
 obtain⟨f,g⟩:=b.wh (t:=(k:Int)) (by omega) (by omega);have hn:=b.n4;have h:0<=tm/c.wh (k:Int):=Int.ediv_nonneg a.1 (by omega);have e:tm/c.wh (k:Int)<=tm:=Int.ediv_le_self _ a.1;refine⟨?_,?_,?_⟩<;>unfold xz<;>simp only[qO]<;>omega
structure Xn(W:E)(q:Nat)(s:Nat)(c:Cf)(tv:P)(lb gb:Nat)(sr tm:Int):Prop where
 b0:W.1[q]?=Q (.cells #[(O s)] 90 (0,0))
 b1:W.1[q+1]?=Q (.cells #[I sr] 3 (0,0))
 b2:W.1[q+2]?=Q (.cells #[I tm] 3 (0,0))
 hd:vw W s c tv lb gb
theorem Xn.later(h:Xn W q s c tv lb gb sr tm)(a:Below W.1.size W W'):Xn W' q s c tv lb gb sr tm:=
 ⟨(a.block _ (zd h.b0)).trans h.b0,(a.block _ (zd h.b1)).trans h.b1,(a.block _ (zd h.b2)).trans h.b2,h.hd.later a⟩
theorem Kg(h:Below W.1.size W W'):W.grownBy W' none:=⟨h.os,h.tape,h.output,h.size,fun k a _=>h.block k a⟩
theorem zft(n:Nat)(hn:1<=n)(l q s:Nat)(c:Cf)(L:c.ok)(tv:P)(lb gb:Nat)(sr tm:Int)(w:0<=sr/\sr<4)(y:0<=tm/\tm<=100000)(Kp:E->E->Prop)(j:∀A B,Kp A B->Xn A q s c tv lb gb sr tm->Xn B q s c tv lb gb sr tm)(J U:List WSg->E->Prop)(X:∀d x W,J d W->d.length<c.n->YieldAt Fence.wide (n-1) prog l #[.agg #[I x.1.t,I x.1.sr,I x.1.wn]] W fun e W'=>
   (e=.returned (.bool true)/\J (d++[x]) W'/\Kp W W')\/(e=.returned (.bool false)/\U (d++[x]) W')) (W:E) (V:AbidesFrom W.1.size J) (f:Xn W q s c tv lb gb sr tm) (h0:J [] W):
  CallsIn Fence.wide n prog 183 #[.func (.yield l) #[] #[],(O q),(O (q+1)),(O (q+2))] W fun e W'=>(∃v,e=.returned v)/\
   ((∃xs,xs=(qe c sr tm c.n).map zkp/\J xs W')\/(∃d,True/\U d W')):=by
 obtain⟨a,cap,rfl⟩:=zR f.hd.trow;have HR:=ze f;have HT:=ze (vp c a cap W);obtain⟨c0,c1,c2,c3,c4,c5,c6,-,-⟩:=f.hd.cells;have N:=f.hd.lt;obtain⟨q0,-⟩:=zc f.b0;have a0:=L.n4;have T:=ze V;have HY:=ze X;have z:=ze j;clear f V X j;refine callsIn_of_wp func183 rfl trivial ?_ rfl;simp only[ntmps183,sZz,Nat.reduceAdd,Nat.reduceSub];gi_wp2_with (first|(refine⟨trivial,?_⟩;gi_at_call 179;refine(callsIn_wide.2 (ud HT)).mono ?_;rintro e w1 ⟨rfl,m⟩)|gi_in);clear c0 c1 c2 c3 c4 c5 c6 q0 N;gi_loopw [11] (fun i wr=>∃k:Nat,k<=c.n/\i=I k/\J ((qe c sr tm k).map zkp) wr/\Xn wr q s c (.slice a c.n cap) lb gb sr tm)
  (fun i _=>c.n-(intOf i).toNat)
 case atStart=>exact⟨0,Nat.zero_le _,rfl,ud T _ _ _ none h0 (Kg m) (fun r e=>by cases e),(ud HR).later m⟩
 case round=>
  obtain⟨k,hk,rfl,g,b⟩:=hrel;by_cases p:k<c.n
  ·obtain⟨q0,-⟩:=zc b.b0;obtain⟨q1,-⟩:=zc b.b1;obtain⟨q2,-⟩:=zc b.b2;have u:(k:Int)<c.n:=(by omega);have HK:=ze (zeC b.hd L (k:Int) sr tm (by omega) u y);have D:=ze b;have S:=QP L w y p;clear b;gi_wp2_with (first|(refine⟨trivial,?_⟩;gi_at_call 122;refine(callsIn_wide.2 (ud HK)).mono ?_;rintro e w2 ⟨rfl,o⟩;have F:=ud T _ _ _ none g (Kg o) (fun r e=>by cases e);obtain⟨fn,tmps,assign,body,hy,K⟩:=ud HY _ (zkp (qO c sr tm k)) w2 F (by rw[List.length_map,Ye];exact p);rw[YN S]at hy;dsimp only[qO]at hy)|gi_in);refine K.mono ?_;rintro e W3 (⟨rfl,H,M⟩|⟨rfl,h⟩)
   ·have C:=ze (ud z _ _ M ((ud D).later o));gi_wp2;go_roundw;case rel=>exact⟨k+1,by omega,by simp,by rw[vm,List.map_append,List.map_singleton];exact H,ud C⟩
    case measure=>simp[intOf];omega
   ·gi_wp2;refine bodyPost_ret (results_none rfl _ _ _) rfl ?_;exact⟨⟨_,rfl⟩,.inr ⟨_,trivial,h⟩⟩
  ·obtain rfl:k=c.n:=(by omega);gi_wp2;go_end0;exact⟨⟨_,rfl⟩,.inl ⟨_,rfl,g⟩⟩
theorem QT:∀args w,(callFunc 183 args).run prog w=.ok (.enter 183 args) w:=enters_of func183 (by kernel_rfl) rfl
theorem zcN(n:Nat)(hn:1<=n)(q s:Nat)(c:Cf)(k:c.ok)(tv:P)(lb gb:Nat)(sr tm:Int)(a:0<=sr/\sr<4)(d:0<=tm/\tm<=100000)(Kp:E->E->Prop)(b:∀A B,Kp A B->Xn A q s c tv lb gb sr tm->Xn B q s c tv lb gb sr tm)(w:E)(h:Xn w q s c tv lb gb sr tm):
  SeqStopsK Fence.wide n prog 183 #[(O q),(O (q+1)),(O (q+2))] (fun x:WSg=>#[.agg #[I x.1.t,I x.1.sr,I x.1.wn]]) Kp (fun xs=>xs=(qe c sr tm c.n).map zkp) (fun _=>True) c.n w:=
 fun l J e W i g _ j f=>zft n hn l q s c k tv lb gb sr tm a d Kp b J e j W g (h.later i) f
theorem Jv(w:E)(a b c:Obj):(((w.alloc a).alloc b).alloc c).1[w.1.size]?=Q a/\(((w.alloc a).alloc b).alloc c).1[w.1.size+1]?=Q b/\(((w.alloc a).alloc b).alloc c).1[w.1.size+2]?=Q c/\Below w.1.size w (((w.alloc a).alloc b).alloc c)/\(((w.alloc a).alloc b).alloc c).1.size=w.1.size+3:=by
 obtain⟨e,f,g,d⟩:=box2 w a b;refine⟨(Below.heap_alloc _ _ _ (by rw[d];omega)).trans e,(Below.heap_alloc _ _ _ (by rw[d];omega)).trans f,?_,g.alloc (by rw[d];omega) _,by simp⟩;have:=zq ((w.alloc a).alloc b) c;rw[d]at this;exact this
def YX(w:E)(s:Nat)(sr tm:Int):E:=((w.alloc (.cells #[(O s)] 90)).alloc (.cells #[I sr] 3)).alloc (.cells #[I tm] 3)
theorem YY(h:vw w s c tv lb gb)(sr tm:Int):Xn (YX w s sr tm) w.1.size s c tv lb gb sr tm/\Below w.1.size w (YX w s sr tm)/\(YX w s sr tm).1.size=w.1.size+3:=by
 obtain⟨b,d,e,a,f⟩:=Jv w (.cells #[(O s)] 90) (.cells #[I sr] 3) (.cells #[I tm] 3);exact⟨⟨b,d,e,h.later a⟩,a,f⟩
theorem YW(s:Nat)(sr tm:Int)(w:E):
  Calls prog 120 #[(O s),I sr,I tm] w fun e w'=>e=.returned (.func (.func 183) #[] #[(O w.1.size),(O (w.1.size+1)),(O (w.1.size+2))])/\w'=YX w s sr tm:=by
 go_enter func120,ntmps120;go_wp2_with fail;go_ret;exact⟨rfl,rfl⟩
theorem zqc{base:Nat}{e:TypeId}{size:Nat}{v:P}{xs:List P}(h:w.ownsRow base e size v n xs):∀k,v.ownBlock=Q k->k<w.1.size:=fun k c=>by
 obtain⟨a,b⟩:=zH h c;exact zd b
theorem Xn.kx{m:Nat}{A B:E}(h:Xn A q s c tv lb gb sr tm)(b:KX ex n m A B)(a:∀i,i<=2->q+i<n/\¬ex (q+i))(d:s<n/\¬ex s)(g:∀k,tv.ownBlock=Q k->k<n/\¬ex k):Xn B q s c tv lb gb sr tm:=
 ⟨qC b h.b0 (a 0 (by omega)).1 (a 0 (by omega)).2,qC b h.b1 (a 1 (by omega)).1 (a 1 (by omega)).2,qC b h.b2 (a 2 (by omega)).1 (a 2 (by omega)).2,h.hd.kept b.kept (fun e=>e.elim d.2 (by have:=d.1;omega)) (fun k f e=>by have:=g k f;exact e.elim this.2 (by omega))⟩
theorem zaX(q s:Nat)(c:Cf)(g:c.ok)(tv:P)(lb gb:Nat)(sr tm:Int)(a:0<=sr/\sr<4)(e:0<=tm/\tm<=100000)(w:E)(f:Xn w q s c tv lb gb sr tm)(h:∀i,i<=2->q+i<n/\¬ex (q+i))(j:s<n/\¬ex s)(l:∀k,tv.ownBlock=Q k->k<n/\¬ex k):
  jx ex n prog 183 #[(O q),(O (q+1)),(O (q+2))] (fun x:WSg=>#[.agg #[I x.1.t,I x.1.sr,I x.1.wn]]) (fun xs=>xs=(qe c sr tm c.n).map zkp) c.n w:=
 fun m _=>Yi.of (zcN 6 (by omega) q s c g tv lb gb sr tm a e (KX ex n m) (fun A B b d=>d.kx b h j l) w f)
theorem Xf:∀args w,(callFunc 121 args).run prog w=.ok (.enter 121 args) w:=enters_of func121 (by kernel_rfl) rfl
theorem Kv{c:Cf}(j:c.ok){L:LV}{Gl:List (Sg×Unit)}{sr tm val:Int}(a:0<=sr/\sr<4)(f:0<=tm/\tm<=100000)(d:∀p∈L,p.2.st≠0)(b:∀k:Nat,k<c.n->zE Gl (qO c sr tm k)=none):∀k,k<=c.n->((((qe c sr tm k).map zkp).filter (fun x=>(stG Gl L x.1).st==0)).length:Int)=yn c L ⟨sr,tm,val⟩ k
 |0,_=>by simp[qe,yn]
 |k+1,o=>by
  have m:=Kv j (val:=val) a f d b k (by omega);rw[vm,List.map_append,List.filter_append,List.length_append,Int.natCast_add,m];simp only[List.map_cons,List.map_nil,List.filter_cons,List.filter_nil,yn];rw[YN (QP j a f (by omega))];have e:zG c (k:Int) ⟨sr,tm,val⟩=qO c sr tm k:=rfl;have l:stG Gl L (qO c sr tm k)=stL L (qO c sr tm k):=by unfold stG;rw[b k (by omega)]
  rw[e,l];by_cases g:qO c sr tm k∈zn L
  ·obtain⟨v,hv,i⟩:=Qv g;have h:¬(stL L (qO c sr tm k)).st=0:=(by unfold stL;rw[hv];exact d _ i);simp[h,g]
  ·have h:(stL L (qO c sr tm k)).st=0:=(by unfold stL;rw[ye.2 g];rfl);simp[h,g]
theorem zbK{Gl:List (Sg×Unit)}{L:LV}(h:xI w s c tv lb gb Gl L)(t:c.ok)(sr tm val:Int)(b:0<=sr/\sr<4)(l:0<=tm/\tm<=100000)(j:∀p∈L,p.2.st≠0)(g:∀k:Nat,k<c.n->zE Gl (qO c sr tm k)=none):
  Calls prog 62 #[(O s),I sr,I tm] w (Rz w (I (1+2*yn c L ⟨sr,tm,val⟩ c.n))):=by
 have u:=vV c L ⟨sr,tm,val⟩ c.n;have H:=t.n4;have v:=Kv t (val:=val) b l j g c.n (G _);generalize yn c L ⟨sr,tm,val⟩ c.n=M at*;obtain⟨D,F⟩:=u;obtain⟨y,a,q⟩:=YY h.hd sr tm;have f:=h.foot_lt;have m:=ze (YW s sr tm w);have o:=ze (zhI (fun x:WSg=>x.1) 183 #[(O w.1.size),(O (w.1.size+1)),(O (w.1.size+2))] QT 121 #[(O s)] #[] Xf (fun x=>(stG Gl L x.1).st==0) (YX w s sr tm)
  (fun x W B=>Y4 (h.later (a.trans (B.mono a.size))) x.1 x.2)
  (zaX w.1.size s c t tv lb gb sr tm b l (YX w s sr tm) y (fun i J=>⟨by omega,fun e=>e⟩) ⟨by have:=h.lt;omega,fun e=>e⟩ (fun k C=>⟨by have:=f k (.inr (.inl C));omega,fun e=>e⟩))
  (fun xs e=>by rw[e,List.length_map,Ye];omega))
 have A:=ze v;have d:=ze a;clear v y a h j g f q;go_enter func62,ntmps62;go_wp2_with fail;refine(ud m).mono ?_;rintro e w1 ⟨rfl,rfl⟩;go_wp2_with fail;refine(ud o).mono ?_;rintro e w1 ⟨xs,rfl,z,r⟩;rw[ud A]at z;subst z;go_wp2_with fail;go_ret;exact⟨rfl,(ud d).trans (r.mono (ud d).size)⟩
end Go.Proofs.YtndhpgciopcncaaGreatDoor
namespace Go.Proofs.YtndhpgciopcncaaGreatDoor.Dr
open Go.RowKit Go.Maps Go.Shelf
structure Below(B:Nat)(w w':E):Prop where
 bel:Go.RowKit.Below B w w'
 more:w.drawn<=w'.drawn
theorem Below.size{B:Nat}{w w':E}(h:Below B w w'):w.1.size<=w'.1.size:=h.bel.size
theorem Below.block{B:Nat}{w w':E}(h:Below B w w'):∀k,k<B->w'.1[k]?=w.1[k]?:=h.bel.block
theorem Below.cell{B:Nat}{w w':E}(h:Below B w w'){p:Addr}(a:p.block<B):w'.cell? p=w.cell? p:=h.bel.cell a
theorem Below.refl(B:Nat)(w:E):Below B w w:=⟨Go.RowKit.Below.refl _ _,G _⟩
theorem Below.trans{B:Nat}{a b c:E}(h:Below B a b)(k:Below B b c):Below B a c:=⟨h.bel.trans k.bel,R h.more k.more⟩
theorem Below.mono{B a:Nat}{w w':E}(h:Below B w w')(b:a<=B):Below a w w':=⟨h.bel.mono b,h.more⟩
theorem Below.drew{B:Nat}{a w:E}(h:Below B a w):Below B a w.drew:=⟨h.bel.drew,R h.more (Nat.le_succ _)⟩
theorem Below.alloc{B:Nat}{a w:E}(h:Below B a w)(b:B<=w.1.size)(o:Obj):Below B a (w.alloc o):=⟨h.bel.alloc b o,h.more⟩
theorem Qe(w:E)(p:Addr)(u:P):(w.setCell p u).drawn=w.drawn:=by
 unfold World.setCell;repeat' split;all_goals rfl
theorem Below.setCell{B:Nat}{a w:E}(h:Below B a w){p:Addr}(b:B<=p.block)(u:P):Below B a (w.setCell p u):=⟨h.bel.setCell b u,by rw[Qe];exact h.more⟩
theorem Below.heap_alloc(w:E)(o:Obj)(k:Nat)(h:k<w.1.size):(w.alloc o).1[k]?=w.1[k]?:=Go.RowKit.Below.heap_alloc w o k h
theorem Below.heap_setCell(w:E)(a:Addr)(u:P)(k:Nat)(h:k≠a.block):(w.setCell a u).1[k]?=w.1[k]?:=Go.RowKit.Below.heap_setCell w a u k h
theorem box2(w:E)(a b:Obj):((w.alloc a).alloc b).1[w.1.size]?=Q a/\((w.alloc a).alloc b).1[w.1.size+1]?=Q b/\Below w.1.size w ((w.alloc a).alloc b)/\((w.alloc a).alloc b).1.size=w.1.size+2:=by
 obtain⟨c,d,e,f⟩:=YtndhpgciopcncaaGreatDoor.box2 w a b;exact⟨c,d,⟨e,G _⟩,f⟩
theorem below4{B:Nat}{w:E}{g:Nat}(h:B<=g)(a b c d:P):Below B w ((((w.setCell (U g 0) a).setCell (U g 1) b).setCell (U g 2) c).setCell (U g 3) d):=⟨YtndhpgciopcncaaGreatDoor.below4 h a b c d,by simp only[Qe];exact G _⟩
end Go.Proofs.YtndhpgciopcncaaGreatDoor.Dr
namespace Go.Proofs.YtndhpgciopcncaaGreatDoor
open Go.RowKit Go.Maps Go.Shelf
theorem Dr.Below.lays{w w':E}(h:Dr.Below w.1.size w w'):∃q os,w'=Go.Sort.grow (w.drewN q) os:=by
 obtain⟨⟨a,b,c,e,d⟩,f⟩:=h;refine⟨w'.drawn-w.drawn,w'.heap.extract w.1.size w'.1.size,?_⟩;obtain⟨g,k,dr,os,j⟩:=w';dsimp only at a b c e d f ⊢;subst a b c;unfold Go.Sort.grow World.drewN;dsimp only;congr 1
 ·apply Array.ext_getElem?;intro i;rw[Array.getElem?_append];split
  ·rename_i hi;exact d i hi
  ·rename_i hi;rw[Array.getElem?_extract];split
   ·congr 1;omega
   ·rw[Array.getElem?_eq_none];omega
 ·omega
end Go.Proofs.YtndhpgciopcncaaGreatDoor
namespace Go.Proofs.YtndhpgciopcncaaGreatDoor
open Go.RowKit Go.Maps Go.Shelf
variable {S Sp:List Cl->Prop} {N g:Nat} {o o':Option Cl} {ov:P} {A B W X w:E} {Kp:E->E->Prop}
attribute [local go_sem] Oper.semAt_some
def CAt(W:E)(b:Nat)(l:List Cl):Prop:=∀j x,l[j]?=Q x->W.cell? (U b (j*4))=Q (I x.cnt)/\W.cell? (U b (j*4+1))=Q (I x.sum)/\W.cell? (U b (j*4+2))=Q (Y Z x.mn)/\W.cell? (U b (j*4+3))=Q (Y Z x.mx)
theorem CAt.below{n b:Nat}{l:List Cl}(h:CAt A b l)(a:Below n A B)(c:b<n):CAt B b l:=fun j x i=>by
 obtain⟨d,e,f,g⟩:=h j x i;exact⟨(a.cell (p:=(U b _)) c).trans d,(a.cell (p:=(U b _)) c).trans e,(a.cell (p:=(U b _)) c).trans f,(a.cell (p:=(U b _)) c).trans g⟩
theorem zfw(n:Nat)(hn:1<=n)(l Bs m b cap:Nat)(ad:Option Addr)(zs:List Cl)(L:zs≠[]->ad=Q (U b 0))(X:zs.length<=1000)(M:b<m)(J t:List Cl->E->Prop)(w:∀a x W,J a W->a.length<zs.length->YieldAt Fence.wide (n-1) prog l #[.agg #[I x.cnt,I x.sum,Y Z x.mn,Y Z x.mx]] W fun e W'=>
   (e=.returned (.bool true)/\J (a++[x]) W'/\Below m W W')\/(e=.returned (.bool false)/\t (a++[x]) W')) (W:E) (q:m<=W.1.size) (u:AbidesFrom W.1.size J) (H:W.cell? (U Bs 0)=Q (.slice ad zs.length cap)) (y:CAt W b zs) (F:J [] W):
  CallsIn Fence.wide n prog 238 #[.func (.yield l) #[] #[],(O Bs)] W fun e W'=>(∃v,e=.returned v)/\
   ((∃xs,xs=zs/\J xs W')\/(∃a,True/\t a W')):=by
 have A:=ze y;have D:=ze w;have B:=ze u;clear y w u;refine callsIn_of_wp func238 rfl trivial ?_ rfl;simp only[ntmps238,sZz,Nat.reduceAdd,Nat.reduceSub];gi_wp2;gi_loopw [7] (fun i wr=>∃k:Nat,k<=zs.length/\i=I k/\J (zs.take k) wr/\Below m W wr)
  (fun i _=>zs.length-(intOf i).toNat)
 case atStart=>exact⟨0,Nat.zero_le _,rfl,F,Below.refl _ _⟩
 case round=>
  obtain⟨k,T,rfl,h,d⟩:=hrel;by_cases c:k<zs.length
  ·obtain rfl:=L (fun e=>by rw[e]at c;simp at c);obtain⟨x,s⟩:=vr c;obtain⟨y0,y1,y2,y3⟩:=(ud A).below d M k x s;have g:=ud B _ _ _ none h (World.grownBy_alloc wr (.cells #[I x.cnt,I x.sum,Y Z x.mn,Y Z x.mx] 115) none) (fun r e=>by cases e);obtain⟨fn,tmps,assign,body,V,K⟩:=ud D _ x _ g (by rw[List.length_take];omega);have z:(k:Int)<zs.length:=(by omega);have C:=ze s;have f:=ze d;clear s d g;gi_wp2;refine K.mono ?_;rintro e S (⟨rfl,o,p⟩|⟨rfl,j⟩)
   ·gi_wp2;go_roundw;case rel=>
     refine⟨k+1,by omega,by simp,?_,?_⟩
     ·obtain⟨N,ex⟩:=List.getElem?_eq_some_iff.1 (ud C);rw[List.take_succ_eq_append_getElem N,ex];exact o
     ·exact((ud f).alloc (R q (ud f).size) _).trans p
    case measure=>simp[intOf];omega
   ·gi_wp2;refine bodyPost_ret (results_none rfl _ _ _) rfl ?_;exact⟨⟨_,rfl⟩,.inr ⟨_,trivial,j⟩⟩
  ·obtain rfl:k=zs.length:=(by omega);gi_wp2;go_end0;exact⟨⟨_,rfl⟩,.inl ⟨_,List.take_length,h⟩⟩
theorem zcR(a:Option Addr)(len cap:Nat)(w:E):
  Calls prog 186 #[.slice a len cap] w fun e w'=>e=.returned (.func (.func 238) #[] #[(O w.1.size)])/\w'=w.alloc (.cells #[.slice a len cap] 208):=by
 go_enter func186,ntmps186;go_wp2_with fail;go_ret;exact⟨rfl,rfl⟩
theorem XT:∀args w,(callFunc 238 args).run prog w=.ok (.enter 238 args) w:=enters_of func238 (by kernel_rfl) rfl
theorem JE(n:Nat)(hn:1<=n)(Bs c b cap:Nat)(ad:Option Addr)(zs:List Cl)(m:zs≠[]->ad=Q (U b 0))(q:zs.length<=1000)(g:b<c)(w:E)(a:c<=w.1.size)(d:Bs<w.1.size)(e:w.cell? (U Bs 0)=Q (.slice ad zs.length cap))(o:CAt w b zs):
  SeqStopsK Fence.wide n prog 238 #[(O Bs)] (fun x:Cl=>#[.agg #[I x.cnt,I x.sum,Y Z x.mn,Y Z x.mx]]) (Below c) (fun xs=>xs=zs) (fun _=>True) zs.length w:=
 fun l J h W f j _ k i=>zfw n hn l Bs c b cap ad zs m q g J h k W (R a f.size) j ((f.cell (p:=(U Bs 0)) d).trans e) (o.below (f.mono a) g) i
def zfu(a b:Int):Int:=if a<b then-1 else if b<a then 1 else 0
theorem Kk(a:Int)(w:E):Calls prog 239 #[Y Z a] w fun e w'=>e=.returned (.bool false)/\w'=w:=by
 have h:(a==a)=true:=by simp
 go_enter func239,ntmps239;go_wp2_with fail;go_ret;exact⟨by simp,rfl⟩
theorem K5(a b:Int)(w:E):Calls prog 188 #[Y Z a,Y Z b] w fun e w'=>e=.returned (I (zfu a b))/\w'=w:=by
 rcases Int.lt_trichotomy a b with h|h|h
 ·rw[show zfu a b= -1 from by simp[zfu,h]]
  go_enter func188,ntmps188;go_wp2_with(go_at_call 239;refine(Kk _ _).mono ?_;rintro e w1 ⟨rfl,rfl⟩);go_ret;exact⟨rfl,rfl⟩
 ·rw[show zfu a b=0 from by simp[zfu,h]]
  have c:¬a<b:=by omega
  have d:¬b<a:=by omega
  have f:decide (a<b)=false:=by simpa using c
  have g:decide (b<a)=false:=by simpa using d
  go_enter func188,ntmps188;go_wp2_with(go_at_call 239;refine(Kk _ _).mono ?_;rintro e w1 ⟨rfl,rfl⟩);go_ret;exact⟨rfl,rfl⟩
 ·have c:¬a<b:=by omega
  rw[show zfu a b=1 from by simp[zfu,h,c]]
  have f:decide (a<b)=false:=by simpa using c
  go_enter func188,ntmps188;go_wp2_with(go_at_call 239;refine(Kk _ _).mono ?_;rintro e w1 ⟨rfl,rfl⟩);go_ret;exact⟨rfl,rfl⟩
def KB(x y:Cl):Int:=zfu x.mn y.mn
def KC(x y:Cl):Int:=zfu y.mx x.mx
theorem zil(x y:Cl)(w:E):Calls prog 187 #[.agg #[I x.cnt,I x.sum,Y Z x.mn,Y Z x.mx],.agg #[I y.cnt,I y.sum,Y Z y.mn,Y Z y.mx]] w (Rz w (I (KB x y))):=by
 go_enter func187,ntmps187;go_wp2_with(go_at_call 188;refine(K5 _ _ _).mono ?_;rintro e w1 ⟨rfl,rfl⟩);go_ret;exact⟨rfl,(box2 w _ _).2.2.1⟩
theorem zim(x y:Cl)(w:E):Calls prog 189 #[.agg #[I x.cnt,I x.sum,Y Z x.mn,Y Z x.mx],.agg #[I y.cnt,I y.sum,Y Z y.mn,Y Z y.mx]] w (Rz w (I (KC x y))):=by
 go_enter func189,ntmps189;go_wp2_with(go_at_call 188;refine(K5 _ _ _).mono ?_;rintro e w1 ⟨rfl,rfl⟩);go_ret;exact⟨rfl,(box2 w _ _).2.2.1⟩
theorem zin(x:Cl)(w:E):Calls prog 191 #[.agg #[I x.cnt,I x.sum,Y Z x.mn,Y Z x.mx]] w (Rz w (I x.cnt)):=by
 go_enter func191,ntmps191;go_wp2_with fail;go_ret;exact⟨rfl,(Below.refl _ _).alloc (G _) _⟩
theorem zio(x:Cl)(w:E):Calls prog 193 #[.agg #[I x.cnt,I x.sum,Y Z x.mn,Y Z x.mx]] w (Rz w (I x.sum)):=by
 go_enter func193,ntmps193;go_wp2_with fail;go_ret;exact⟨rfl,(Below.refl _ _).alloc (G _) _⟩
attribute [local go_sem] Oper.semAt_some
def jp(a:Cl->Cl->Int)(o:Option Cl)(x:Cl):Option Cl:=match o with
 |none=>Q x
 |some f=>if a x f<0 then Q x else Q f
def yd(a:Cl->Cl->Int)(l:List Cl):Option Cl:=l.foldl (jp a) none
theorem vo(a:Cl->Cl->Int)(l:List Cl)(x:Cl):yd a (l++[x])=jp a (yd a l) x:=by simp[yd]
def qL(x:Cl):Obj:=.cells #[I x.cnt,I x.sum,Y Z x.mn,Y Z x.mx] 115 (0,0)
theorem KT{a b c d:P}{t:TypeId}{fr:Nat×Nat}(h:w.1[g]?=Q (.cells #[a,b,c,d] t fr))(x y z u:P):((((w.setCell (U g 0) x).setCell (U g 1) y).setCell (U g 2) z).setCell (U g 3) u).1[g]?=Q (.cells #[x,y,z,u] t fr):=by
 have:=xD (i:=3) (xD (i:=2) (xD (i:=1) (xD (i:=0) h x) y) z) u;exact this
theorem zI{i k:Nat}{v:P}(h:k≠g):(w.setCell (U g i) v).1[k]?=w.1[k]?:=by
 rcases Nat.lt_or_gt_of_ne h with h|h
 ·exact((Below.refl (k+1) w).setCell (p:=(U g i)) (show k+1<=g from h) v).block k (Nat.lt_succ_self _)
 ·have c:zi (fun k=>k=g) w (w.setCell (U g i) v):=zg (zi.refl _ _) rfl;by_cases d:k<w.1.size
  ·exact c.block k d (by omega)
  ·have a:w.1[k]?=none:=(by simp;omega);have b:(w.setCell (U g i) v).1.size=w.1.size:=(by simp[World.setCell]);rw[a];simp[b];omega
structure FI(ov:P)(ot:TypeId)(w:E)(o:Option Cl)(W:E):Prop where
 i1:W.1[w.1.size]?=Q (.cells #[ov] ot (0,0))
 i2:W.1[w.1.size+1]?=Q (qL qA)
 i3:W.1[w.1.size+2]?=Q (qL (o.getD qA))
 i4:W.1[w.1.size+3]?=Q (.cells #[.bool o.isSome] 4 (0,0))
 i5:Below w.1.size w W
theorem FI.own{ot:TypeId}{row:Option Nat}(d:w.1.size<=N)(a:FI ov ot w o A)(b:A.grownBy B row)(c:∀r,row=Q r->N<=r/\∃o:Obj,A.1[r]?=Q o/\o.isCells=false):FI ov ot w o B:=
 ⟨zv a.i1 b (fun r e=>(c r e).2),zv a.i2 b (fun r e=>(c r e).2),zv a.i3 b (fun r e=>(c r e).2),zv a.i4 b (fun r e=>(c r e).2),a.i5.grown b a.i5.size (fun k e=>by have:=(c k e).1;omega)⟩
theorem FI.later{ot:TypeId}(h:FI ov ot w o A)(a:Below A.1.size A B):FI ov ot w o B:=
 ⟨(a.block _ (zd h.i1)).trans h.i1,(a.block _ (zd h.i2)).trans h.i2,(a.block _ (zd h.i3)).trans h.i3,(a.block _ (zd h.i4)).trans h.i4,h.i5.trans (a.mono h.i5.size)⟩
theorem VM{ot:TypeId}(h:FI ov ot w o W)(c:o'=o)(b:Zf w.1.size Kp)(a:Below W.1.size W X):KeepsFrom N W X/\Kp W X/\FI ov ot w o' X:=by
 subst c;exact⟨(yF a).from _,b.of _ _ (yF a) (a.mono h.i5.size),h.later a⟩
theorem XU{ot:TypeId}{x:Cl}(h:FI ov ot w o W)(l:o'=Q x)(e:Zf w.1.size Kp)(d:Below W.1.size W X):
  KeepsFrom N W (((((X.setCell (U (w.1.size+2) 0) (I x.cnt)).setCell (U (w.1.size+2) 1) (I x.sum)).setCell (U (w.1.size+2) 2) (Y Z x.mn)).setCell (U (w.1.size+2) 3) (Y Z x.mx)).setCell (U (w.1.size+3) 0) (.bool true))/\Kp W (((((X.setCell (U (w.1.size+2) 0) (I x.cnt)).setCell (U (w.1.size+2) 1) (I x.sum)).setCell (U (w.1.size+2) 2) (Y Z x.mn)).setCell (U (w.1.size+2) 3) (Y Z x.mx)).setCell (U (w.1.size+3) 0) (.bool true))/\FI ov ot w o' (((((X.setCell (U (w.1.size+2) 0) (I x.cnt)).setCell (U (w.1.size+2) 1) (I x.sum)).setCell (U (w.1.size+2) 2) (Y Z x.mn)).setCell (U (w.1.size+2) 3) (Y Z x.mx)).setCell (U (w.1.size+3) 0) (.bool true)):=by
 subst l;have b:=h.later d;have f:KeepsOthers W (((((X.setCell (U (w.1.size+2) 0) (I x.cnt)).setCell (U (w.1.size+2) 1) (I x.sum)).setCell (U (w.1.size+2) 2) (Y Z x.mn)).setCell (U (w.1.size+2) 3) (Y Z x.mx)).setCell (U (w.1.size+3) 0) (.bool true)):=(((((yF d).trans (KeepsOthers.setCell _ _ _)).trans (KeepsOthers.setCell _ _ _)).trans (KeepsOthers.setCell _ _ _)).trans (KeepsOthers.setCell _ _ _)).trans (KeepsOthers.setCell _ _ _);have k2:Below w.1.size W (((((X.setCell (U (w.1.size+2) 0) (I x.cnt)).setCell (U (w.1.size+2) 1) (I x.sum)).setCell (U (w.1.size+2) 2) (Y Z x.mn)).setCell (U (w.1.size+2) 3) (Y Z x.mx)).setCell (U (w.1.size+3) 0) (.bool true)):=(((((d.mono h.i5.size).setCell (p:=(U (w.1.size+2) 0)) (show w.1.size<=w.1.size+2 by omega) _).setCell (p:=(U (w.1.size+2) 1)) (show w.1.size<=w.1.size+2 by omega) _).setCell (p:=(U (w.1.size+2) 2)) (show w.1.size<=w.1.size+2 by omega) _).setCell (p:=(U (w.1.size+2) 3)) (show w.1.size<=w.1.size+2 by omega) _).setCell (p:=(U (w.1.size+3) 0)) (show w.1.size<=w.1.size+3 by omega) _;have g:=KT b.i3 (I x.cnt) (I x.sum) (Y Z x.mn) (Y Z x.mx);have a:∀k,k≠w.1.size+2->((((X.setCell (U (w.1.size+2) 0) (I x.cnt)).setCell (U (w.1.size+2) 1) (I x.sum)).setCell (U (w.1.size+2) 2) (Y Z x.mn)).setCell (U (w.1.size+2) 3) (Y Z x.mx)).1[k]?=X.1[k]?:=fun k c=>by
  rw[zI c,zI c,zI c,zI c]
 have j:=xD (i:=0) ((a (w.1.size+3) (by omega)).trans b.i4) (.bool true);refine⟨f.from _,e.of _ _ f k2,⟨?_,?_,?_,j,h.i5.trans k2⟩⟩
 ·rw[zI (by omega),a _ (by omega)];exact b.i1
 ·rw[zI (by omega),a _ (by omega)];exact b.i2
 ·rw[zI (by omega)];exact g
theorem zfz(gf:Nat)(lb:Array P)(eg:∀args w,(callFunc gf args).run prog w=.ok (.enter gf args) w)(w:E)(a5:Zf w.1.size Kp)(M:SeqStopsK Fence.wide 6 prog gf lb (fun x:Cl=>#[.agg #[I x.cnt,I x.sum,Y Z x.mn,Y Z x.mx]]) Kp S Sp N w):
  Calls prog 185 #[.func (.func gf) #[] lb,.func (.func 187) #[] #[]] w fun e w'=>∃xs,S xs/\e=.returned (.tuple #[clV ((yd KB xs).getD qA),.bool (yd KB xs).isSome])/\Below w.1.size w w':=by
 have a0:=ze M;have q:=ze a5;have a9:=ze eg;obtain⟨b1,b2,b3,L,k⟩:=Jv w (.cells #[.func (.func 187) #[] #[]] 268) (qL qA) (qL qA);have y:Hid (FI (.func (.func 187) #[] #[]) 268 w none ((((w.alloc (.cells #[.func (.func 187) #[] #[]] 268)).alloc (qL qA)).alloc (qL qA)).alloc zgT)):=
  ⟨(Below.heap_alloc _ _ _ (by rw[k];omega)).trans b1,(Below.heap_alloc _ _ _ (by rw[k];omega)).trans b2,(Below.heap_alloc _ _ _ (by rw[k];omega)).trans b3,by have:=zq (((w.alloc (.cells #[.func (.func 187) #[] #[]] 268)).alloc (qL qA)).alloc (qL qA)) zgT;rw[k]at this;exact this,L.alloc (by rw[k];omega) _⟩
 have BZ:Hid (((((w.alloc (.cells #[.func (.func 187) #[] #[]] 268)).alloc (qL qA)).alloc (qL qA)).alloc zgT).1.size=w.1.size+4):=by show _=_;rw[zM,k]
 clear M a5 eg b1 b2 b3 L k;unfold qL qA at y BZ;dsimp only at y BZ;refine(callsIn_wide (n:=7)).1 ?_;refine callsIn_of_wp_marks func185 rfl trivial ?_ rfl;simp only[ntmps185,sZz,Nat.reduceAdd,Nat.reduceSub];gi_wp2;obtain⟨W0,a3⟩:∃W0,((((w.alloc (.cells #[.func (.func 187) #[] #[]] 268)).alloc Qn).alloc Qn).alloc zgT)=W0:=⟨_,rfl⟩;rw[a3]at y BZ ⊢;clear a3;have hz:W0.1.size=w.1.size+4:=ud BZ;refine wpIn_rangeFunc_ownH (F:=Fence.wide) (n:=7) rfl (by omega) (gf:=gf) (lb:=lb) rfl trivial (ud a9) (ud a0) (ud q).t (fun W l o o' hl=>(ud q).b W l o o' (by omega)) (ud y).i5 (fun _=>rfl)
  (fun u W=>FI (.func (.func 187) #[] #[]) 268 w (yd KB u) W)
  (fun _ _ _=>False)
  (fun s A B row hs X hr=>FI.own (by omega) hs X hr)
  (fun _ _ _ _ _ hs _ _=>hs)
  (ud y)
  (fun x a' W=>∃v,w.1.size+4<=v/\W.1[v]?=Q (.cells #[I x.cnt,I x.sum,Y Z x.mn,Y Z x.mx] 115 (0,0))/\a'={tmps:=#[.func (.func gf) #[] lb,.func (.func 187) #[] #[],undef,(O w.1.size),(O (w.1.size+1)),.bool false,(O (w.1.size+2)),(O (w.1.size+3)),(O v),.func (.func gf) #[] lb,.agg #[I x.cnt,I x.sum,Y Z x.mn,Y Z x.mx],undef,undef,undef,undef,undef,undef,undef,undef,undef,undef,undef,undef],defers:=[]})
  (fun x a' s A B row hs X hr=>by
   obtain⟨v,h1,h2,h3⟩:=hs;exact⟨v,h1,zv h2 X (fun r e=>(hr r e).2),h3⟩) ?assign ?body ?done ?stop
 case assign=>
  rintro l u x W K d hK;have a7:=d.i5.size;have ag:=zd d.i4;have HK:=ze hK;have m:=ze d;clear hK d;gi_wp2;refine ud HK _ _ ((KeepsOthers.alloc _ _).from _) ((ud q).of _ _ (KeepsOthers.alloc _ _) ((Below.refl _ W).alloc a7 _)) ((ud m).later ((Below.refl _ _).alloc (G _) _)) ⟨W.1.size,by omega,zq _ _,rfl⟩
 case body=>
  rintro l u x a' W hl ⟨r,hr⟩ d ⟨v,af,hx,rfl⟩ ah;have a7:=d.i5.size;have H:=zd hx;have ac:=zd d.i4;obtain⟨c1,-⟩:=zc d.i1;obtain⟨x0,x1,x2,x3,-⟩:=zc hx;have ad:¬v=w.1.size+2:=by omega
  have ae:¬v=w.1.size+3:=by omega
  have m:=ze d;have HX:=ze hx;have i:=vo KB u x;cases hF:yd KB u with
  |none=>
   rw[hF]at d m i;obtain⟨g0,g1,g2,g3,-⟩:=zc d.i3;have a1:=fun j=>zw d.i3 j;have ab:=fun j=>zw d.i4 j;obtain⟨c4,-⟩:=zc d.i4;have z:=ze i;clear d hx hF i;gi_wp2;refine⟨fun _ h=>(by cases h),?_⟩;gi_wp2;all_goals(try go_bits)
   exact XU (ud m) (ud z) (ud q) (Below.refl _ _)
  |some f=>
   rw[hF]at d m i;obtain⟨g0,g1,g2,g3,-⟩:=zc d.i3;obtain⟨c4,-⟩:=zc d.i4;have HC:=ze (zil x f W);have J:=zd d.i3;clear d hx hF;by_cases ho:KB x f<0
   ·have z:=ze (i.trans (show jp KB (Q f) x=Q x by simp[jp,ho]));clear i;generalize KB x f=O9 at*;gi_wp2_with (first|(refine⟨trivial,?_⟩;gi_at_call 187;refine(CallsIn.inRound l (callsIn_wide.2 (ud HC))).mono ?_;rintro e w' ⟨rfl,a⟩;have d0:=(a.cell (p:=(U v 0)) H).trans x0;have d1:=(a.cell (p:=(U v 1)) H).trans x1;have d2:=(a.cell (p:=(U v 2)) H).trans x2;have d3:=(a.cell (p:=(U v 3)) H).trans x3;have e0:=(a.cell (p:=(U (w.1.size+2) 0)) J).trans g0;have e1:=(a.cell (p:=(U (w.1.size+2) 1)) J).trans g1;have e2:=(a.cell (p:=(U (w.1.size+2) 2)) J).trans g2;have e3:=(a.cell (p:=(U (w.1.size+2) 3)) J).trans g3;have e4:=(a.cell (p:=(U (w.1.size+3) 0)) ac).trans c4;have a1:=fun j=>zw ((ud m).later a).i3 j;have ab:=fun j=>zw ((ud m).later a).i4 j;have T:=ze a;clear a)|gi_in);all_goals(try go_bits)
    exact XU (ud m) (ud z) (ud q) (ud T)
   ·have z:=ze (i.trans (show jp KB (Q f) x=Q f by simp[jp,ho]));have ai:decide (KB x f<0)=false:=(by simpa using ho);clear i;generalize KB x f=O9 at*;gi_wp2_with (first|(refine⟨trivial,?_⟩;gi_at_call 187;refine(CallsIn.inRound l (callsIn_wide.2 (ud HC))).mono ?_;rintro e w' ⟨rfl,a⟩;have T:=ze a;clear a)|gi_in);all_goals(try go_bits)
    exact VM (ud m) (ud z) (ud q) (ud T)
 case done=>
  rintro D xs W hD hS d hK;have m:=ze d;have HK:=ze hK;have HS:=ze hS;obtain⟨fo,V⟩:∃fo,yd KB xs=fo:=⟨_,rfl⟩;rw[V]at d m;obtain⟨g0,g1,g2,g3,-⟩:=zc d.i3;obtain⟨c4,-⟩:=zc d.i4;obtain⟨r0,r1,r2,r3,-⟩:=zc d.i2;have a1:=fun j=>zw d.i2 j;have aa:=ze V;clear d hK hS V;obtain⟨g,X⟩:∃g,fo.getD qA=g:=⟨_,rfl⟩;obtain⟨bb,hbb⟩:∃bb,fo.isSome=bb:=⟨_,rfl⟩;rw[X]at g0 g1 g2 g3;rw[hbb]at c4;have HG:=ze X;have a8:=ze hbb;clear X hbb;gi_wp2
  gi_region
  gi_wp2;have C:D≠w.1.size+1:=by omega
  have a6:=zjv (ud m).i2 (I g.cnt) (I g.sum) (Y Z g.mn) (Y Z g.mx);have a2:(((((W.setCell (U (w.1.size+1) 0) (I g.cnt)).setCell (U (w.1.size+1) 1) (I g.sum)).setCell (U (w.1.size+1) 2) (Y Z g.mn)).setCell (U (w.1.size+1) 3) (Y Z g.mx)).drew).1[D]?=Q (.deferred (Q [])):=by
   show((((W.setCell (U (w.1.size+1) 0) (I g.cnt)).setCell (U (w.1.size+1) 1) (I g.sum)).setCell (U (w.1.size+1) 2) (Y Z g.mn)).setCell (U (w.1.size+1) 3) (Y Z g.mx)).1[D]?=_;rw[zI C,zI C,zI C,zI C];exact ud HK
  have a4:=((ud m).i5).trans (YU (w:=W) (B:=w.1.size) (g:=w.1.size+1) (Nat.le_succ _) (I g.cnt) (I g.sum) (Y Z g.mn) (Y Z g.mx));refine⟨by simp,.inl ⟨_,_,rfl,run_takeDeferred a2,?_⟩⟩;refine⟨_,xa results185 _ _ (w.1.size+1) _ _ _ _ _ rfl rfl ((World.putObj_heap_other (fun e=>C e.symm)).trans a6) underlying115 rfl (by kernel_rfl),xs,ud HS,?_,xE a4 (G _) (by omega) a2 _⟩;rw[ud aa,ud HG,ud a8];rfl
 case stop=>
  rintro D c u W _ _ h _;exact h.elim
theorem zfA(gf:Nat)(lb:Array P)(eg:∀args w,(callFunc gf args).run prog w=.ok (.enter gf args) w)(w:E)(a5:Zf w.1.size Kp)(M:SeqStopsK Fence.wide 6 prog gf lb (fun x:Cl=>#[.agg #[I x.cnt,I x.sum,Y Z x.mn,Y Z x.mx]]) Kp S Sp N w):
  Calls prog 185 #[.func (.func gf) #[] lb,.func (.func 189) #[] #[]] w fun e w'=>∃xs,S xs/\e=.returned (.tuple #[clV ((yd KC xs).getD qA),.bool (yd KC xs).isSome])/\Below w.1.size w w':=by
 have a0:=ze M;have q:=ze a5;have a9:=ze eg;obtain⟨b1,b2,b3,L,k⟩:=Jv w (.cells #[.func (.func 189) #[] #[]] 268) (qL qA) (qL qA);have y:Hid (FI (.func (.func 189) #[] #[]) 268 w none ((((w.alloc (.cells #[.func (.func 189) #[] #[]] 268)).alloc (qL qA)).alloc (qL qA)).alloc zgT)):=
  ⟨(Below.heap_alloc _ _ _ (by rw[k];omega)).trans b1,(Below.heap_alloc _ _ _ (by rw[k];omega)).trans b2,(Below.heap_alloc _ _ _ (by rw[k];omega)).trans b3,by have:=zq (((w.alloc (.cells #[.func (.func 189) #[] #[]] 268)).alloc (qL qA)).alloc (qL qA)) zgT;rw[k]at this;exact this,L.alloc (by rw[k];omega) _⟩
 have BZ:Hid (((((w.alloc (.cells #[.func (.func 189) #[] #[]] 268)).alloc (qL qA)).alloc (qL qA)).alloc zgT).1.size=w.1.size+4):=by show _=_;rw[zM,k]
 clear M a5 eg b1 b2 b3 L k;unfold qL qA at y BZ;dsimp only at y BZ;refine(callsIn_wide (n:=7)).1 ?_;refine callsIn_of_wp_marks func185 rfl trivial ?_ rfl;simp only[ntmps185,sZz,Nat.reduceAdd,Nat.reduceSub];gi_wp2;obtain⟨W0,a3⟩:∃W0,((((w.alloc (.cells #[.func (.func 189) #[] #[]] 268)).alloc Qn).alloc Qn).alloc zgT)=W0:=⟨_,rfl⟩;rw[a3]at y BZ ⊢;clear a3;have hz:W0.1.size=w.1.size+4:=ud BZ;refine wpIn_rangeFunc_ownH (F:=Fence.wide) (n:=7) rfl (by omega) (gf:=gf) (lb:=lb) rfl trivial (ud a9) (ud a0) (ud q).t (fun W l o o' hl=>(ud q).b W l o o' (by omega)) (ud y).i5 (fun _=>rfl)
  (fun u W=>FI (.func (.func 189) #[] #[]) 268 w (yd KC u) W)
  (fun _ _ _=>False)
  (fun s A B row hs X hr=>FI.own (by omega) hs X hr)
  (fun _ _ _ _ _ hs _ _=>hs)
  (ud y)
  (fun x a' W=>∃v,w.1.size+4<=v/\W.1[v]?=Q (.cells #[I x.cnt,I x.sum,Y Z x.mn,Y Z x.mx] 115 (0,0))/\a'={tmps:=#[.func (.func gf) #[] lb,.func (.func 189) #[] #[],undef,(O w.1.size),(O (w.1.size+1)),.bool false,(O (w.1.size+2)),(O (w.1.size+3)),(O v),.func (.func gf) #[] lb,.agg #[I x.cnt,I x.sum,Y Z x.mn,Y Z x.mx],undef,undef,undef,undef,undef,undef,undef,undef,undef,undef,undef,undef],defers:=[]})
  (fun x a' s A B row hs X hr=>by
   obtain⟨v,h1,h2,h3⟩:=hs;exact⟨v,h1,zv h2 X (fun r e=>(hr r e).2),h3⟩) ?assign ?body ?done ?stop
 case assign=>
  rintro l u x W K d hK;have a7:=d.i5.size;have ag:=zd d.i4;have HK:=ze hK;have m:=ze d;clear hK d;gi_wp2;refine ud HK _ _ ((KeepsOthers.alloc _ _).from _) ((ud q).of _ _ (KeepsOthers.alloc _ _) ((Below.refl _ W).alloc a7 _)) ((ud m).later ((Below.refl _ _).alloc (G _) _)) ⟨W.1.size,by omega,zq _ _,rfl⟩
 case body=>
  rintro l u x a' W hl ⟨r,hr⟩ d ⟨v,af,hx,rfl⟩ ah;have a7:=d.i5.size;have H:=zd hx;have ac:=zd d.i4;obtain⟨c1,-⟩:=zc d.i1;obtain⟨x0,x1,x2,x3,-⟩:=zc hx;have ad:¬v=w.1.size+2:=by omega
  have ae:¬v=w.1.size+3:=by omega
  have m:=ze d;have HX:=ze hx;have i:=vo KC u x;cases hF:yd KC u with
  |none=>
   rw[hF]at d m i;obtain⟨g0,g1,g2,g3,-⟩:=zc d.i3;have a1:=fun j=>zw d.i3 j;have ab:=fun j=>zw d.i4 j;obtain⟨c4,-⟩:=zc d.i4;have z:=ze i;clear d hx hF i;gi_wp2;refine⟨fun _ h=>(by cases h),?_⟩;gi_wp2;all_goals(try go_bits)
   exact XU (ud m) (ud z) (ud q) (Below.refl _ _)
  |some f=>
   rw[hF]at d m i;obtain⟨g0,g1,g2,g3,-⟩:=zc d.i3;obtain⟨c4,-⟩:=zc d.i4;have HC:=ze (zim x f W);have J:=zd d.i3;clear d hx hF;by_cases ho:KC x f<0
   ·have z:=ze (i.trans (show jp KC (Q f) x=Q x by simp[jp,ho]));clear i;generalize KC x f=O9 at*;gi_wp2_with (first|(refine⟨trivial,?_⟩;gi_at_call 189;refine(CallsIn.inRound l (callsIn_wide.2 (ud HC))).mono ?_;rintro e w' ⟨rfl,a⟩;have d0:=(a.cell (p:=(U v 0)) H).trans x0;have d1:=(a.cell (p:=(U v 1)) H).trans x1;have d2:=(a.cell (p:=(U v 2)) H).trans x2;have d3:=(a.cell (p:=(U v 3)) H).trans x3;have e0:=(a.cell (p:=(U (w.1.size+2) 0)) J).trans g0;have e1:=(a.cell (p:=(U (w.1.size+2) 1)) J).trans g1;have e2:=(a.cell (p:=(U (w.1.size+2) 2)) J).trans g2;have e3:=(a.cell (p:=(U (w.1.size+2) 3)) J).trans g3;have e4:=(a.cell (p:=(U (w.1.size+3) 0)) ac).trans c4;have a1:=fun j=>zw ((ud m).later a).i3 j;have ab:=fun j=>zw ((ud m).later a).i4 j;have T:=ze a;clear a)|gi_in);all_goals(try go_bits)
    exact XU (ud m) (ud z) (ud q) (ud T)
   ·have z:=ze (i.trans (show jp KC (Q f) x=Q f by simp[jp,ho]));have ai:decide (KC x f<0)=false:=(by simpa using ho);clear i;generalize KC x f=O9 at*;gi_wp2_with (first|(refine⟨trivial,?_⟩;gi_at_call 189;refine(CallsIn.inRound l (callsIn_wide.2 (ud HC))).mono ?_;rintro e w' ⟨rfl,a⟩;have T:=ze a;clear a)|gi_in);all_goals(try go_bits)
    exact VM (ud m) (ud z) (ud q) (ud T)
 case done=>
  rintro D xs W hD hS d hK;have m:=ze d;have HK:=ze hK;have HS:=ze hS;obtain⟨fo,V⟩:∃fo,yd KC xs=fo:=⟨_,rfl⟩;rw[V]at d m;obtain⟨g0,g1,g2,g3,-⟩:=zc d.i3;obtain⟨c4,-⟩:=zc d.i4;obtain⟨r0,r1,r2,r3,-⟩:=zc d.i2;have a1:=fun j=>zw d.i2 j;have aa:=ze V;clear d hK hS V;obtain⟨g,X⟩:∃g,fo.getD qA=g:=⟨_,rfl⟩;obtain⟨bb,hbb⟩:∃bb,fo.isSome=bb:=⟨_,rfl⟩;rw[X]at g0 g1 g2 g3;rw[hbb]at c4;have HG:=ze X;have a8:=ze hbb;clear X hbb;gi_wp2
  gi_region
  gi_wp2;have C:D≠w.1.size+1:=by omega
  have a6:=zjv (ud m).i2 (I g.cnt) (I g.sum) (Y Z g.mn) (Y Z g.mx);have a2:(((((W.setCell (U (w.1.size+1) 0) (I g.cnt)).setCell (U (w.1.size+1) 1) (I g.sum)).setCell (U (w.1.size+1) 2) (Y Z g.mn)).setCell (U (w.1.size+1) 3) (Y Z g.mx)).drew).1[D]?=Q (.deferred (Q [])):=by
   show((((W.setCell (U (w.1.size+1) 0) (I g.cnt)).setCell (U (w.1.size+1) 1) (I g.sum)).setCell (U (w.1.size+1) 2) (Y Z g.mn)).setCell (U (w.1.size+1) 3) (Y Z g.mx)).1[D]?=_;rw[zI C,zI C,zI C,zI C];exact ud HK
  have a4:=((ud m).i5).trans (YU (w:=W) (B:=w.1.size) (g:=w.1.size+1) (Nat.le_succ _) (I g.cnt) (I g.sum) (Y Z g.mn) (Y Z g.mx));refine⟨by simp,.inl ⟨_,_,rfl,run_takeDeferred a2,?_⟩⟩;refine⟨_,xa results185 _ _ (w.1.size+1) _ _ _ _ _ rfl rfl ((World.putObj_heap_other (fun e=>C e.symm)).trans a6) underlying115 rfl (by kernel_rfl),xs,ud HS,?_,xE a4 (G _) (by omega) a2 _⟩;rw[ud aa,ud HG,ud a8];rfl
 case stop=>
  rintro D c u W _ _ h _;exact h.elim
end Go.Proofs.YtndhpgciopcncaaGreatDoor
