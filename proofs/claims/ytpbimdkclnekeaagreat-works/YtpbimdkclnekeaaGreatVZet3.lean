import Derived.Test.YtpbimdkclnekeaaGreatVHng0
open Option renaming none → I
open Go.Value renaming int → E
open Option renaming some → Q
open Go.IntKind renaming i64 → U
open Go renaming World → Y
open Go.IntKind renaming i32 → Z
open Go renaming Value → G
open Go.RowKit renaming Below → P
open Go.RowKit.Below renaming refl → R
open Nat renaming le_refl → T
set_option linter.unusedVariables false
set_option maxRecDepth 100000
set_option maxHeartbeats 4000000
open Go.Proofs.Tryz
namespace Go.Proofs.YtpbimdkclnekeaaGreat
open Go.RowKit Go.Maps Go.Shelf
attribute [local go_sem] Oper.semAt_some
def qs(c:Cf)(se tm:Int)(k:Nat):Sg:=⟨(k:Int),se,tm/c.wh (k:Int)⟩
def qK(c:Cf)(se tm:Int)(k:Nat):List Sg:=(List.range k).map (qs c se tm)
theorem jk(c:Cf)(se tm:Int)(k:Nat):qK c se tm (k+1)=qK c se tm k++[qs c se tm k]:=by simp[qK,List.range_succ]
theorem Qm(c:Cf)(se tm:Int)(k:Nat):(qK c se tm k).length=k:=by simp[qK]
theorem Zb{c:Cf}(b:c.ok){se tm:Int}(d:0<=se/\se<4)(a:0<=tm/\tm<=100000){k:Nat}(i:k<c.n):(qs c se tm k).wf:=by
 obtain⟨f,g⟩:=b.wh (t:=(k:Int)) (by omega) (by omega)
 have hn:=b.n4
 have h:0<=tm/c.wh (k:Int):=Int.ediv_nonneg a.1 (by omega)
 have e:tm/c.wh (k:Int)<=tm:=Int.ediv_le_self _ a.1
 refine⟨?_,?_,?_⟩<;>unfold yS<;>simp only[qs]<;>omega
structure jz(W:Y)(q:Nat)(s:Nat)(c:Cf)(tv:G)(lb gb:Nat)(se tm:Int):Prop where
 b0:W.1[q]?=Q (.cells #[.pointer (Q ⟨s,0,I⟩)] 81 (0,0))
 b1:W.1[q+1]?=Q (.cells #[E U se] 3 (0,0))
 b2:W.1[q+2]?=Q (.cells #[E U tm] 3 (0,0))
 hd:kQ W s c tv lb gb
theorem jz.later{W b:Y}{q:Nat}{s:Nat}{c:Cf}{tv:G}{lb gb:Nat}{se tm:Int}(h:jz W q s c tv lb gb se tm)(a:P W.1.size W b):jz b q s c tv lb gb se tm:=
 ⟨(a.block _ (zd h.b0)).trans h.b0,(a.block _ (zd h.b1)).trans h.b1,(a.block _ (zd h.b2)).trans h.b2,h.hd.later a⟩
theorem Y9{W a:Y}(h:P W.1.size W a):W.grownBy a I:=⟨h.os,h.tape,h.output,h.size,fun k b _=>h.block k b⟩
theorem zcL(n:Nat)(hn:1<=n)(l q s:Nat)(c:Cf)(M:c.ok)(tv:G)(lb gb:Nat)(se tm:Int)(y:0<=se/\se<4)(z:0<=tm/\tm<=100000)(Kp:Y->Y->Prop)(m:∀A B,Kp A B->jz A q s c tv lb gb se tm->jz B q s c tv lb gb se tm)(J X:List WSg->Y->Prop)
  (hY:∀d x W,J d W->d.length<c.n->YieldAt Fence.wide (n-1) prog l #[.agg #[E U x.1.t,E U x.1.se,E U x.1.we]] W fun e f=>
   (e=.returned (.bool true)/\J (d++[x]) f/\Kp W f)\/(e=.returned (.bool false)/\X (d++[x]) f))
  (W:Y) (hJ:AbidesFrom W.1.size J) (g:jz W q s c tv lb gb se tm) (h0:J [] W):
  CallsIn Fence.wide n prog 204 #[.func (.yield l) #[] #[],.pointer (Q ⟨q,0,I⟩),.pointer (Q ⟨q+1,0,I⟩),.pointer (Q ⟨q+2,0,I⟩)] W fun e f=>(∃v,e=.returned v)/\
   ((∃xs,xs=(qK c se tm c.n).map zeh/\J xs f)\/(∃d,True/\X d f)):=by
 obtain⟨a,cap,rfl⟩:=zq g.hd.trow
 have HR:=ze g
 have HT:=ze (Kr c a cap W)
 obtain⟨c0,c1,c2,c3,c4,c5,c6,-,-⟩:=g.hd.cells
 have O:=g.hd.lt
 obtain⟨q0,-⟩:=zc g.b0
 have a0:=M.n4
 have V:=ze hJ
 have HY:=ze hY
 have C:=ze m
 clear g hJ hY m
 refine callsIn_of_wp func204 rfl trivial ?_ rfl
 simp only[ntmps204,List.size_toArray,List.length_cons,List.length_nil,Nat.reduceAdd,Nat.reduceSub,Array.replicate_succ,Array.replicate_zero,List.push_toArray,List.append_toArray,List.nil_append,List.cons_append]
 gi_wp2_with (first|(refine⟨trivial,?_⟩;gi_at_call 169;refine(callsIn_wide.2 (ud HT)).mono ?_;rintro e w1 ⟨rfl,o⟩)|gi_in)
 clear c0 c1 c2 c3 c4 c5 c6 q0 O
 gi_loopw [11] (fun i wr=>∃k:Nat,k<=c.n/\i=E U k/\J ((qK c se tm k).map zeh) wr/\jz wr q s c (.slice a c.n cap) lb gb se tm)
  (fun i _=>c.n-(intOf i).toNat)
 case atStart=>exact⟨0,Nat.zero_le _,rfl,ud V _ _ _ I h0 (Y9 o) (fun r e=>by cases e),(ud HR).later o⟩
 case round=>
  obtain⟨k,hk,rfl,h,b⟩:=hrel
  by_cases u:k<c.n
  ·obtain⟨q0,-⟩:=zc b.b0
   obtain⟨q1,-⟩:=zc b.b1
   obtain⟨q2,-⟩:=zc b.b2
   have w:(k:Int)<c.n:=by omega
   have HK:=ze (zcg b.hd M (k:Int) se tm (by omega) w z)
   have F:=ze b
   have S:=Zb M y z u
   clear b
   gi_wp2_with (first|(refine⟨trivial,?_⟩;gi_at_call 168;refine(callsIn_wide.2 (ud HK)).mono ?_;rintro e w2 ⟨rfl,p⟩;have H:=ud V _ _ _ I h (Y9 p) (fun r e=>by cases e);obtain⟨fn,tmps,assign,body,hy,L⟩:=ud HY _ (zeh (qs c se tm k)) w2 H (by rw[List.length_map,Qm];exact u);rw[Xr S]at hy;dsimp only[qs]at hy)|gi_in)
   refine L.mono ?_
   rintro e W3 (⟨rfl,K,N⟩|⟨rfl,j⟩)
   ·have D:=ze (ud C _ _ N ((ud F).later p))
    gi_wp2
    go_roundw
    case rel=>exact⟨k+1,by omega,by simp,by rw[jk,List.map_append,List.map_singleton];exact K,ud D⟩
    case measure=>simp[intOf];omega
   ·gi_wp2
    refine bodyPost_ret (results_none rfl _ _ _) rfl ?_
    exact⟨⟨_,rfl⟩,.inr ⟨_,trivial,j⟩⟩
  ·obtain rfl:k=c.n:=by omega
   gi_wp2
   go_end0
   exact⟨⟨_,rfl⟩,.inl ⟨_,rfl,h⟩⟩
theorem XX:∀args w,(callFunc 204 args).run prog w=.ok (.enter 204 args) w:=enters_of func204 (by kernel_rfl) rfl
theorem QS(n:Nat)(hn:1<=n)(q s:Nat)(c:Cf)(k:c.ok)(tv:G)(lb gb:Nat)(se tm:Int)(a:0<=se/\se<4)(d:0<=tm/\tm<=100000)(Kp:Y->Y->Prop)(b:∀A B,Kp A B->jz A q s c tv lb gb se tm->jz B q s c tv lb gb se tm)(w:Y)(h:jz w q s c tv lb gb se tm):
  SeqStopsK Fence.wide n prog 204 #[.pointer (Q ⟨q,0,I⟩),.pointer (Q ⟨q+1,0,I⟩),.pointer (Q ⟨q+2,0,I⟩)] (fun x:WSg=>#[.agg #[E U x.1.t,E U x.1.se,E U x.1.we]]) Kp (fun xs=>xs=(qK c se tm c.n).map zeh) (fun _=>True) c.n w:=
 fun l J e W i g _ j f=>zcL n hn l q s c k tv lb gb se tm a d Kp b J e j W g (h.later i) f
theorem jr(w:Y)(a b c:Obj):(((w.alloc a).alloc b).alloc c).1[w.1.size]?=Q a/\(((w.alloc a).alloc b).alloc c).1[w.1.size+1]?=Q b/\(((w.alloc a).alloc b).alloc c).1[w.1.size+2]?=Q c/\P w.1.size w (((w.alloc a).alloc b).alloc c)/\(((w.alloc a).alloc b).alloc c).1.size=w.1.size+3:=by
 obtain⟨e,f,g,d⟩:=box2 w a b
 refine⟨(Below.heap_alloc _ _ _ (by rw[d];omega)).trans e,(Below.heap_alloc _ _ _ (by rw[d];omega)).trans f,?_,g.alloc (by rw[d];omega) _,by simp⟩
 have:=zo ((w.alloc a).alloc b) c
 rw[d]at this;exact this
def QQ(w:Y)(s:Nat)(se tm:Int):Y:=((w.alloc (.cells #[.pointer (Q ⟨s,0,I⟩)] 81)).alloc (.cells #[E U se] 3)).alloc (.cells #[E U tm] 3)
theorem QR{w:Y}{s:Nat}{c:Cf}{tv:G}{lb gb:Nat}(h:kQ w s c tv lb gb)(se tm:Int):jz (QQ w s se tm) w.1.size s c tv lb gb se tm/\P w.1.size w (QQ w s se tm)/\(QQ w s se tm).1.size=w.1.size+3:=by
 obtain⟨b,d,e,a,f⟩:=jr w (.cells #[.pointer (Q ⟨s,0,I⟩)] 81) (.cells #[E U se] 3) (.cells #[E U tm] 3)
 exact⟨⟨b,d,e,h.later a⟩,a,f⟩
theorem QP(s:Nat)(se tm:Int)(w:Y):
  Calls prog 166 #[.pointer (Q ⟨s,0,I⟩),E U se,E U tm] w fun e w'=>e=.returned (.func (.func 204) #[] #[.pointer (Q ⟨w.1.size,0,I⟩),.pointer (Q ⟨w.1.size+1,0,I⟩),.pointer (Q ⟨w.1.size+2,0,I⟩)])/\w'=QQ w s se tm:=by
 go_enter func166,ntmps166
 go_wp2_with fail
 go_ret
 exact⟨rfl,rfl⟩
theorem vw{w:Y}{base:Nat}{e:TypeId}{size:Nat}{v:G}{n:Nat}{xs:List G}(h:w.ownsRow base e size v n xs):∀k,v.ownBlock=Q k->k<w.1.size:=fun k c=>by
 obtain⟨a,b⟩:=zO h c;exact zd b
theorem jz.kx{ex:Nat->Prop}{n m:Nat}{A B:Y}{q s:Nat}{c:Cf}{tv:G}{lb gb:Nat}{se tm:Int}(h:jz A q s c tv lb gb se tm)(b:KX ex n m A B)(a:∀i,i<=2->q+i<n/\¬ex (q+i))(d:s<n/\¬ex s)(g:∀k,tv.ownBlock=Q k->k<n/\¬ex k):jz B q s c tv lb gb se tm:=
 ⟨qc b h.b0 (a 0 (by omega)).1 (a 0 (by omega)).2,qc b h.b1 (a 1 (by omega)).1 (a 1 (by omega)).2,qc b h.b2 (a 2 (by omega)).1 (a 2 (by omega)).2,h.hd.kept b.kept (fun e=>e.elim d.2 (by have:=d.1;omega)) (fun k f e=>by have:=g k f;exact e.elim this.2 (by omega))⟩
theorem zeC{ex:Nat->Prop}{n:Nat}(q s:Nat)(c:Cf)(g:c.ok)(tv:G)(lb gb:Nat)(se tm:Int)(a:0<=se/\se<4)(e:0<=tm/\tm<=100000)(w:Y)(f:jz w q s c tv lb gb se tm)(h:∀i,i<=2->q+i<n/\¬ex (q+i))(j:s<n/\¬ex s)(l:∀k,tv.ownBlock=Q k->k<n/\¬ex k):
  jw ex n prog 204 #[.pointer (Q ⟨q,0,I⟩),.pointer (Q ⟨q+1,0,I⟩),.pointer (Q ⟨q+2,0,I⟩)] (fun x:WSg=>#[.agg #[E U x.1.t,E U x.1.se,E U x.1.we]]) (fun xs=>xs=(qK c se tm c.n).map zeh) c.n w:=
 fun m _=>YK.of (QS 6 (by omega) q s c g tv lb gb se tm a e (KX ex n m) (fun A B b d=>d.kx b h j l) w f)
theorem YR:∀args w,(callFunc 167 args).run prog w=.ok (.enter 167 args) w:=enters_of func167 (by kernel_rfl) rfl
theorem Ym{c:Cf}(j:c.ok){L:LV}{Gl:List (Sg×Unit)}{se tm val:Int}(a:0<=se/\se<4)(f:0<=tm/\tm<=100000)(d:∀p∈L,p.2.st≠0)(b:∀k:Nat,k<c.n->zV Gl (qs c se tm k)=I):∀k,k<=c.n->((((qK c se tm k).map zeh).filter (fun x=>(stG Gl L x.1).st==0)).length:Int)=yh c L ⟨se,tm,val⟩ k
 |0,_=>by simp[qK,yh]
 |k+1,o=>by
  have m:=Ym j (val:=val) a f d b k (by omega)
  rw[jk,List.map_append,List.filter_append,List.length_append,Int.natCast_add,m]
  simp only[List.map_cons,List.map_nil,List.filter_cons,List.filter_nil,yh]
  rw[Xr (Zb j a f (by omega))]
  have e:zI c (k:Int) ⟨se,tm,val⟩=qs c se tm k:=rfl
  have l:stG Gl L (qs c se tm k)=stL L (qs c se tm k):=by unfold stG;rw[b k (by omega)]
  rw[e,l]
  by_cases g:qs c se tm k∈zx L
  ·obtain⟨v,hv,i⟩:=Vf g
   have h:¬(stL L (qs c se tm k)).st=0:=by unfold stL;rw[hv];exact d _ i
   simp[h,g]
  ·have h:(stL L (qs c se tm k)).st=0:=by unfold stL;rw[yC.2 g];rfl
   simp[h,g]
theorem JH{w:Y}{s:Nat}{c:Cf}{tv:G}{lb gb:Nat}{Gl:List (Sg×Unit)}{L:LV}(h:xJ w s c tv lb gb Gl L)(t:c.ok)(se tm val:Int)(b:0<=se/\se<4)(l:0<=tm/\tm<=100000)(j:∀p∈L,p.2.st≠0)(g:∀k:Nat,k<c.n->zV Gl (qs c se tm k)=I):
  Calls prog 115 #[.pointer (Q ⟨s,0,I⟩),E U se,E U tm] w fun e w'=>e=.returned (E U (1+2*yh c L ⟨se,tm,val⟩ c.n))/\P w.1.size w w':=by
 have u:=vu c L ⟨se,tm,val⟩ c.n
 have H:=t.n4
 have v:=Ym t (val:=val) b l j g c.n (T _)
 generalize yh c L ⟨se,tm,val⟩ c.n=M at*
 obtain⟨D,F⟩:=u
 obtain⟨y,a,q⟩:=QR h.hd se tm
 have f:=h.foot_lt
 have m:=ze (QP s se tm w)
 have o:=ze (zeG (fun x:WSg=>x.1) 204 #[.pointer (Q ⟨w.1.size,0,I⟩),.pointer (Q ⟨w.1.size+1,0,I⟩),.pointer (Q ⟨w.1.size+2,0,I⟩)] XX 167 #[.pointer (Q ⟨s,0,I⟩)] #[] YR (fun x=>(stG Gl L x.1).st==0) (QQ w s se tm)
  (fun x W B=>Qb (h.later (a.trans (B.mono a.size))) x.1 x.2)
  (zeC w.1.size s c t tv lb gb se tm b l (QQ w s se tm) y (fun i K=>⟨by omega,fun e=>e⟩) ⟨by have:=h.lt;omega,fun e=>e⟩ (fun k C=>⟨by have:=f k (.inr (.inl C));omega,fun e=>e⟩))
  (fun xs e=>by rw[e,List.length_map,Qm];omega))
 have A:=ze v
 have d:=ze a
 clear v y a h j g f q
 go_enter func115,ntmps115
 go_wp2_with fail
 refine(ud m).mono ?_
 rintro e J ⟨rfl,rfl⟩
 go_wp2_with fail
 refine(ud o).mono ?_
 rintro e J ⟨xs,rfl,z,r⟩
 rw[ud A]at z
 subst z
 go_wp2_with fail
 go_ret
 exact⟨rfl,(ud d).trans (r.mono (ud d).size)⟩
attribute [local go_sem] Oper.semAt_some
def CAt(W:Y)(b:Nat)(l:List Cl):Prop:=∀j x,l[j]?=Q x->W.cell? ⟨b,j*4,I⟩=Q (E U x.cnt)/\W.cell? ⟨b,j*4+1,I⟩=Q (E U x.sum)/\W.cell? ⟨b,j*4+2,I⟩=Q (E Z x.mn)/\W.cell? ⟨b,j*4+3,I⟩=Q (E Z x.mx)
theorem CAt.below{n b:Nat}{A B:Y}{l:List Cl}(h:CAt A b l)(a:P n A B)(c:b<n):CAt B b l:=fun j x i=>by
 obtain⟨d,e,f,g⟩:=h j x i
 exact⟨(a.cell (p:=⟨b,_,I⟩) c).trans d,(a.cell (p:=⟨b,_,I⟩) c).trans e,(a.cell (p:=⟨b,_,I⟩) c).trans f,(a.cell (p:=⟨b,_,I⟩) c).trans g⟩
theorem zcO(n:Nat)(hn:1<=n)(l u o b cap:Nat)(ad:Option Addr)(zs:List Cl)(N:zs≠[]->ad=Q ⟨b,0,I⟩)(hz:zs.length<=1000)(O:b<o)(J w:List Cl->Y->Prop)
  (z:∀a x W,J a W->a.length<zs.length->YieldAt Fence.wide (n-1) prog l #[.agg #[E U x.cnt,E U x.sum,E Z x.mn,E Z x.mx]] W fun e f=>
   (e=.returned (.bool true)/\J (a++[x]) f/\P o W f)\/(e=.returned (.bool false)/\w (a++[x]) f))
  (W:Y) (s:o<=W.1.size) (y:AbidesFrom W.1.size J) (L:W.cell? ⟨u,0,I⟩=Q (.slice ad zs.length cap)) (A:CAt W b zs) (K:J [] W):
  CallsIn Fence.wide n prog 218 #[.func (.yield l) #[] #[],.pointer (Q ⟨u,0,I⟩)] W fun e f=>(∃v,e=.returned v)/\
   ((∃xs,xs=zs/\J xs f)\/(∃a,True/\w a f)):=by
 have C:=ze A
 have H:=ze z
 have D:=ze y
 clear A z y
 refine callsIn_of_wp func218 rfl trivial ?_ rfl
 simp only[ntmps218,List.size_toArray,List.length_cons,List.length_nil,Nat.reduceAdd,Nat.reduceSub,Array.replicate_succ,Array.replicate_zero,List.push_toArray,List.append_toArray,List.nil_append,List.cons_append]
 gi_wp2
 gi_loopw [7] (fun i wr=>∃k:Nat,k<=zs.length/\i=E U k/\J (zs.take k) wr/\P o W wr)
  (fun i _=>zs.length-(intOf i).toNat)
 case atStart=>exact⟨0,Nat.zero_le _,rfl,K,R _ _⟩
 case round=>
  obtain⟨k,X,rfl,j,d⟩:=hrel
  by_cases c:k<zs.length
  ·obtain rfl:=N (fun e=>by rw[e]at c;simp at c)
   obtain⟨x,t⟩:=xr c
   obtain⟨y0,y1,y2,y3⟩:=(ud C).below d O k x t
   have h:=ud D _ _ _ I j (World.grownBy_alloc wr (.cells #[E U x.cnt,E U x.sum,E Z x.mn,E Z x.mx] 114) I) (fun r e=>by cases e)
   obtain⟨fn,tmps,assign,body,hy,M⟩:=ud H _ x _ h (by rw[List.length_take];omega)
   have B:(k:Int)<zs.length:=by omega
   have F:=ze t
   have g:=ze d
   clear t d h
   gi_wp2
   refine M.mono ?_
   rintro e V (⟨rfl,p,q⟩|⟨rfl,m⟩)
   ·gi_wp2
    go_roundw
    case rel=>
     refine⟨k+1,by omega,by simp,?_,?_⟩
     ·obtain⟨S,ex⟩:=List.getElem?_eq_some_iff.1 (ud F)
      rw[List.take_succ_eq_append_getElem S,ex];exact p
     ·exact((ud g).alloc (Nat.le_trans s (ud g).size) _).trans q
    case measure=>simp[intOf];omega
   ·gi_wp2
    refine bodyPost_ret (results_none rfl _ _ _) rfl ?_
    exact⟨⟨_,rfl⟩,.inr ⟨_,trivial,m⟩⟩
  ·obtain rfl:k=zs.length:=by omega
   gi_wp2
   go_end0
   exact⟨⟨_,rfl⟩,.inl ⟨_,List.take_length,j⟩⟩
theorem zaK(a:Option Addr)(len cap:Nat)(w:Y):
  Calls prog 182 #[.slice a len cap] w fun e w'=>e=.returned (.func (.func 218) #[] #[.pointer (Q ⟨w.1.size,0,I⟩)])/\w'=w.alloc (.cells #[.slice a len cap] 219):=by
 go_enter func182,ntmps182
 go_wp2_with fail
 go_ret
 exact⟨rfl,rfl⟩
theorem X7:∀args w,(callFunc 218 args).run prog w=.ok (.enter 218 args) w:=enters_of func218 (by kernel_rfl) rfl
theorem Va(n:Nat)(hn:1<=n)(a d b cap:Nat)(ad:Option Addr)(zs:List Cl)(o:zs≠[]->ad=Q ⟨b,0,I⟩)(r:zs.length<=1000)(h:b<d)(w:Y)(c:d<=w.1.size)(e:a<w.1.size)(f:w.cell? ⟨a,0,I⟩=Q (.slice ad zs.length cap))(q:CAt w b zs):
  SeqStopsK Fence.wide n prog 218 #[.pointer (Q ⟨a,0,I⟩)] (fun x:Cl=>#[.agg #[E U x.cnt,E U x.sum,E Z x.mn,E Z x.mx]]) (P d) (fun xs=>xs=zs) (fun _=>True) zs.length w:=
 fun l J i W g k _ m j=>zcO n hn l a d b cap ad zs o r h J i m W (Nat.le_trans c g.size) k ((g.cell (p:=⟨a,0,I⟩) e).trans f) (q.below (g.mono c) h) j
def zcM(a b:Int):Int:=if a<b then-1 else if b<a then 1 else 0
theorem Ye(a:Int)(w:Y):Calls prog 219 #[E Z a] w fun e w'=>e=.returned (.bool false)/\w'=w:=by
 have h:(a==a)=true:=by simp
 go_enter func219,ntmps219
 go_wp2_with fail
 go_ret
 exact⟨by simp,rfl⟩
theorem QU(a b:Int)(w:Y):Calls prog 184 #[E Z a,E Z b] w fun e w'=>e=.returned (E U (zcM a b))/\w'=w:=by
 rcases Int.lt_trichotomy a b with h|h|h
 ·rw[show zcM a b= -1 from by simp[zcM,h]]
  go_enter func184,ntmps184
  go_wp2_with(go_at_call 219;refine(Ye _ _).mono ?_;rintro e d ⟨rfl,rfl⟩)
  go_ret
  exact⟨rfl,rfl⟩
 ·rw[show zcM a b=0 from by simp[zcM,h]]
  have c:¬a<b:=by omega
  have f:¬b<a:=by omega
  have g:decide (a<b)=false:=by simpa using c
  have i:decide (b<a)=false:=by simpa using f
  go_enter func184,ntmps184
  go_wp2_with(go_at_call 219;refine(Ye _ _).mono ?_;rintro e d ⟨rfl,rfl⟩)
  go_ret
  exact⟨rfl,rfl⟩
 ·have c:¬a<b:=by omega
  rw[show zcM a b=1 from by simp[zcM,h,c]]
  have g:decide (a<b)=false:=by simpa using c
  go_enter func184,ntmps184
  go_wp2_with(go_at_call 219;refine(Ye _ _).mono ?_;rintro e d ⟨rfl,rfl⟩)
  go_ret
  exact⟨rfl,rfl⟩
def YH(x y:Cl):Int:=zcM x.mn y.mn
def YI(x y:Cl):Int:=zcM y.mx x.mx
theorem zfd(x y:Cl)(w:Y):Calls prog 183 #[.agg #[E U x.cnt,E U x.sum,E Z x.mn,E Z x.mx],.agg #[E U y.cnt,E U y.sum,E Z y.mn,E Z y.mx]] w fun e w'=>e=.returned (E U (YH x y))/\P w.1.size w w':=by
 go_enter func183,ntmps183
 go_wp2_with(go_at_call 184;refine(QU _ _ _).mono ?_;rintro e a ⟨rfl,rfl⟩)
 go_ret
 exact⟨rfl,(box2 w _ _).2.2.1⟩
theorem zfe(x y:Cl)(w:Y):Calls prog 185 #[.agg #[E U x.cnt,E U x.sum,E Z x.mn,E Z x.mx],.agg #[E U y.cnt,E U y.sum,E Z y.mn,E Z y.mx]] w fun e w'=>e=.returned (E U (YI x y))/\P w.1.size w w':=by
 go_enter func185,ntmps185
 go_wp2_with(go_at_call 184;refine(QU _ _ _).mono ?_;rintro e a ⟨rfl,rfl⟩)
 go_ret
 exact⟨rfl,(box2 w _ _).2.2.1⟩
theorem zff(x:Cl)(w:Y):Calls prog 187 #[.agg #[E U x.cnt,E U x.sum,E Z x.mn,E Z x.mx]] w fun e w'=>e=.returned (E U x.cnt)/\P w.1.size w w':=by
 go_enter func187,ntmps187
 go_wp2_with fail
 go_ret
 exact⟨rfl,(R _ _).alloc (T _) _⟩
theorem zfg(x:Cl)(w:Y):Calls prog 189 #[.agg #[E U x.cnt,E U x.sum,E Z x.mn,E Z x.mx]] w fun e w'=>e=.returned (E U x.sum)/\P w.1.size w w':=by
 go_enter func189,ntmps189
 go_wp2_with fail
 go_ret
 exact⟨rfl,(R _ _).alloc (T _) _⟩
attribute [local go_sem] Oper.semAt_some
def jj(a:Cl->Cl->Int)(o:Option Cl)(x:Cl):Option Cl:=match o with
 |none=>Q x
 |some f=>if a x f<0 then Q x else Q f
def yy(a:Cl->Cl->Int)(l:List Cl):Option Cl:=l.foldl (jj a) I
theorem kK(a:Cl->Cl->Int)(l:List Cl)(x:Cl):yy a (l++[x])=jj a (yy a l) x:=by simp[yy]
def qo(x:Cl):Obj:=.cells #[E U x.cnt,E U x.sum,E Z x.mn,E Z x.mx] 114 (0,0)
theorem Qs{w:Y}{g:Nat}{a b c d:G}{t:TypeId}{e:Nat×Nat}(h:w.1[g]?=Q (.cells #[a,b,c,d] t e))(x y z u:G):((((w.setCell ⟨g,0,I⟩ x).setCell ⟨g,1,I⟩ y).setCell ⟨g,2,I⟩ z).setCell ⟨g,3,I⟩ u).1[g]?=Q (.cells #[x,y,z,u] t e):=by
 have:=xm (i:=3) (xm (i:=2) (xm (i:=1) (xm (i:=0) h x) y) z) u
 exact this
theorem zT{w:Y}{g i k:Nat}{v:G}(h:k≠g):(w.setCell ⟨g,i,I⟩ v).1[k]?=w.1[k]?:=by
 rcases Nat.lt_or_gt_of_ne h with h|h
 ·exact((R (k+1) w).setCell (p:=⟨g,i,I⟩) (show k+1<=g from h) v).block k (Nat.lt_succ_self _)
 ·have c:zk (fun k=>k=g) w (w.setCell ⟨g,i,I⟩ v):=zn (zk.refl _ _) rfl
  by_cases d:k<w.1.size
  ·exact c.block k d (by omega)
  ·have a:w.1[k]?=I:=by simp;omega
   have b:(w.setCell ⟨g,i,I⟩ v).1.size=w.1.size:=by simp[World.setCell]
   rw[a];simp[b];omega
structure FI(ov:G)(ot:TypeId)(w:Y)(o:Option Cl)(W:Y):Prop where
 i1:W.1[w.1.size]?=Q (.cells #[ov] ot (0,0))
 i2:W.1[w.1.size+1]?=Q (qo qP)
 i3:W.1[w.1.size+2]?=Q (qo (o.getD qP))
 i4:W.1[w.1.size+3]?=Q (.cells #[.bool o.isSome] 4 (0,0))
 i5:P w.1.size w W
theorem FI.own{f:G}{d:TypeId}{w A B:Y}{o:Option Cl}{row:Option Nat}{N:Nat}(g:w.1.size<=N)(a:FI f d w o A)(b:A.grownBy B row)(c:∀r,row=Q r->N<=r/\∃o:Obj,A.1[r]?=Q o/\o.isCells=false):FI f d w o B:=
 ⟨zG a.i1 b (fun r e=>(c r e).2),zG a.i2 b (fun r e=>(c r e).2),zG a.i3 b (fun r e=>(c r e).2),zG a.i4 b (fun r e=>(c r e).2),a.i5.grown b a.i5.size (fun k e=>by have:=(c k e).1;omega)⟩
theorem FI.later{c:G}{b:TypeId}{w A B:Y}{o:Option Cl}(h:FI c b w o A)(a:P A.1.size A B):FI c b w o B:=
 ⟨(a.block _ (zd h.i1)).trans h.i1,(a.block _ (zd h.i2)).trans h.i2,(a.block _ (zd h.i3)).trans h.i3,(a.block _ (zd h.i4)).trans h.i4,h.i5.trans (a.mono h.i5.size)⟩
theorem Kf{e:G}{d:TypeId}{w W X:Y}{o c:Option Cl}{Kp:Y->Y->Prop}{N:Nat}(h:FI e d w o W)(f:c=o)(b:jx w.1.size Kp)(a:P W.1.size W X):KeepsFrom N W X/\Kp W X/\FI e d w c X:=by
 subst f
 exact⟨(qN a).from _,b.of _ _ (qN a) (a.mono h.i5.size),h.later a⟩
theorem Xa{m:G}{l:TypeId}{w W X:Y}{o j:Option Cl}{x:Cl}{Kp:Y->Y->Prop}{N:Nat}(h:FI m l w o W)(r:j=Q x)(e:jx w.1.size Kp)(d:P W.1.size W X):
  KeepsFrom N W (((((X.setCell ⟨w.1.size+2,0,I⟩ (E U x.cnt)).setCell ⟨w.1.size+2,1,I⟩ (E U x.sum)).setCell ⟨w.1.size+2,2,I⟩ (E Z x.mn)).setCell ⟨w.1.size+2,3,I⟩ (E Z x.mx)).setCell ⟨w.1.size+3,0,I⟩ (.bool true))/\Kp W (((((X.setCell ⟨w.1.size+2,0,I⟩ (E U x.cnt)).setCell ⟨w.1.size+2,1,I⟩ (E U x.sum)).setCell ⟨w.1.size+2,2,I⟩ (E Z x.mn)).setCell ⟨w.1.size+2,3,I⟩ (E Z x.mx)).setCell ⟨w.1.size+3,0,I⟩ (.bool true))/\FI m l w j (((((X.setCell ⟨w.1.size+2,0,I⟩ (E U x.cnt)).setCell ⟨w.1.size+2,1,I⟩ (E U x.sum)).setCell ⟨w.1.size+2,2,I⟩ (E Z x.mn)).setCell ⟨w.1.size+2,3,I⟩ (E Z x.mx)).setCell ⟨w.1.size+3,0,I⟩ (.bool true)):=by
 subst r
 have b:=h.later d
 have f:KeepsOthers W (((((X.setCell ⟨w.1.size+2,0,I⟩ (E U x.cnt)).setCell ⟨w.1.size+2,1,I⟩ (E U x.sum)).setCell ⟨w.1.size+2,2,I⟩ (E Z x.mn)).setCell ⟨w.1.size+2,3,I⟩ (E Z x.mx)).setCell ⟨w.1.size+3,0,I⟩ (.bool true)):=(((((qN d).trans (KeepsOthers.setCell _ _ _)).trans (KeepsOthers.setCell _ _ _)).trans (KeepsOthers.setCell _ _ _)).trans (KeepsOthers.setCell _ _ _)).trans (KeepsOthers.setCell _ _ _)
 have g:P w.1.size W (((((X.setCell ⟨w.1.size+2,0,I⟩ (E U x.cnt)).setCell ⟨w.1.size+2,1,I⟩ (E U x.sum)).setCell ⟨w.1.size+2,2,I⟩ (E Z x.mn)).setCell ⟨w.1.size+2,3,I⟩ (E Z x.mx)).setCell ⟨w.1.size+3,0,I⟩ (.bool true)):=(((((d.mono h.i5.size).setCell (p:=⟨w.1.size+2,0,I⟩) (show w.1.size<=w.1.size+2 by omega) _).setCell (p:=⟨w.1.size+2,1,I⟩) (show w.1.size<=w.1.size+2 by omega) _).setCell (p:=⟨w.1.size+2,2,I⟩) (show w.1.size<=w.1.size+2 by omega) _).setCell (p:=⟨w.1.size+2,3,I⟩) (show w.1.size<=w.1.size+2 by omega) _).setCell (p:=⟨w.1.size+3,0,I⟩) (show w.1.size<=w.1.size+3 by omega) _
 have n:=Qs b.i3 (E U x.cnt) (E U x.sum) (E Z x.mn) (E Z x.mx)
 have a:∀k,k≠w.1.size+2->((((X.setCell ⟨w.1.size+2,0,I⟩ (E U x.cnt)).setCell ⟨w.1.size+2,1,I⟩ (E U x.sum)).setCell ⟨w.1.size+2,2,I⟩ (E Z x.mn)).setCell ⟨w.1.size+2,3,I⟩ (E Z x.mx)).1[k]?=X.1[k]?:=fun k c=>by
  rw[zT c,zT c,zT c,zT c]
 have q:=xm (i:=0) ((a (w.1.size+3) (by omega)).trans b.i4) (.bool true)
 refine⟨f.from _,e.of _ _ f g,⟨?_,?_,?_,q,h.i5.trans g⟩⟩
 ·rw[zT (by omega),a _ (by omega)];exact b.i1
 ·rw[zT (by omega),a _ (by omega)];exact b.i2
 ·rw[zT (by omega)];exact n
theorem zcQ(gf:Nat)(lb:Array G)(eg:∀args w,(callFunc gf args).run prog w=.ok (.enter gf args) w){Kp:Y->Y->Prop}{S Sp:List Cl->Prop}{N:Nat}(w:Y)(a5:jx w.1.size Kp)
  (M:SeqStopsK Fence.wide 6 prog gf lb (fun x:Cl=>#[.agg #[E U x.cnt,E U x.sum,E Z x.mn,E Z x.mx]]) Kp S Sp N w):
  Calls prog 181 #[.func (.func gf) #[] lb,.func (.func 183) #[] #[]] w fun e w'=>∃xs,S xs/\e=.returned (.tuple #[clV ((yy YH xs).getD qP),.bool (yy YH xs).isSome])/\P w.1.size w w':=by
 have a0:=ze M
 have q:=ze a5
 have a9:=ze eg
 obtain⟨b1,b2,b3,L,k⟩:=jr w (.cells #[.func (.func 183) #[] #[]] 256) (qo qP) (qo qP)
 have y:Hid (FI (.func (.func 183) #[] #[]) 256 w I ((((w.alloc (.cells #[.func (.func 183) #[] #[]] 256)).alloc (qo qP)).alloc (qo qP)).alloc (.cells #[.bool false] 4))):=
  ⟨(Below.heap_alloc _ _ _ (by rw[k];omega)).trans b1,(Below.heap_alloc _ _ _ (by rw[k];omega)).trans b2,(Below.heap_alloc _ _ _ (by rw[k];omega)).trans b3,by have:=zo (((w.alloc (.cells #[.func (.func 183) #[] #[]] 256)).alloc (qo qP)).alloc (qo qP)) (.cells #[.bool false] 4);rw[k]at this;exact this,L.alloc (by rw[k];omega) _⟩
 have BZ:Hid (((((w.alloc (.cells #[.func (.func 183) #[] #[]] 256)).alloc (qo qP)).alloc (qo qP)).alloc (.cells #[.bool false] 4)).1.size=w.1.size+4):=by show _=_;rw[zF,k]
 clear M a5 eg b1 b2 b3 L k
 unfold qo qP at y BZ
 dsimp only at y BZ
 refine(callsIn_wide (n:=7)).1 ?_
 refine callsIn_of_wp_marks func181 rfl trivial ?_ rfl
 simp only[ntmps181,List.size_toArray,List.length_cons,List.length_nil,Nat.reduceAdd,Nat.reduceSub,Array.replicate_succ,Array.replicate_zero,List.push_toArray,List.append_toArray,List.nil_append,List.cons_append]
 gi_wp2
 obtain⟨W0,a3⟩:∃W0,((((w.alloc (.cells #[.func (.func 183) #[] #[]] 256)).alloc (.cells #[E U 0,E U 0,E Z 0,E Z 0] 114)).alloc (.cells #[E U 0,E U 0,E Z 0,E Z 0] 114)).alloc (.cells #[.bool false] 4))=W0:=⟨_,rfl⟩
 rw[a3]at y BZ ⊢
 clear a3
 have hz:W0.1.size=w.1.size+4:=ud BZ
 refine wpIn_rangeFunc_ownH (F:=Fence.wide) (n:=7) rfl (by omega) (gf:=gf) (lb:=lb) rfl trivial (ud a9) (ud a0) (ud q).t (fun W l o o' hl=>(ud q).b W l o o' (by omega)) (ud y).i5 (fun _=>rfl)
  (fun u W=>FI (.func (.func 183) #[] #[]) 256 w (yy YH u) W)
  (fun _ _ _=>False)
  (fun s A B row hs hg hr=>FI.own (by omega) hs hg hr)
  (fun _ _ _ _ _ hs _ _=>hs)
  (ud y)
  (fun x a' W=>∃v,w.1.size+4<=v/\W.1[v]?=Q (.cells #[E U x.cnt,E U x.sum,E Z x.mn,E Z x.mx] 114 (0,0))/\a'={tmps:=#[.func (.func gf) #[] lb,.func (.func 183) #[] #[],undef,.pointer (Q ⟨w.1.size,0,I⟩),.pointer (Q ⟨w.1.size+1,0,I⟩),.bool false,.pointer (Q ⟨w.1.size+2,0,I⟩),.pointer (Q ⟨w.1.size+3,0,I⟩),.pointer (Q ⟨v,0,I⟩),.func (.func gf) #[] lb,.agg #[E U x.cnt,E U x.sum,E Z x.mn,E Z x.mx],undef,undef,undef,undef,undef,undef,undef,undef,undef,undef,undef,undef],defers:=[]})
  (fun x a' s A B row hs hg hr=>by
   obtain⟨v,h1,h2,h3⟩:=hs
   exact⟨v,h1,zG h2 hg (fun r e=>(hr r e).2),h3⟩) ?assign ?body ?done ?stop
 case assign=>
  rintro l u x W K d hK
  have a7:=d.i5.size
  have ag:=zd d.i4
  have HK:=ze hK
  have m:=ze d
  clear hK d
  gi_wp2
  refine ud HK _ _ ((KeepsOthers.alloc _ _).from _) ((ud q).of _ _ (KeepsOthers.alloc _ _) ((R _ W).alloc a7 _)) ((ud m).later ((R _ _).alloc (T _) _)) ⟨W.1.size,by omega,zo _ _,rfl⟩
 case body=>
  rintro l u x a' W hl ⟨r,hr⟩ d ⟨v,af,hx,rfl⟩ ah
  have a7:=d.i5.size
  have H:=zd hx
  have ac:=zd d.i4
  obtain⟨c1,-⟩:=zc d.i1
  obtain⟨x0,x1,x2,x3,-⟩:=zc hx
  have ad:¬v=w.1.size+2:=by omega
  have ae:¬v=w.1.size+3:=by omega
  have m:=ze d
  have HX:=ze hx
  have i:=kK YH u x
  cases hF:yy YH u with
  |none=>
   rw[hF]at d m i
   obtain⟨g0,g1,g2,g3,-⟩:=zc d.i3
   have a1:=fun j=>zD d.i3 j
   have ab:=fun j=>zD d.i4 j
   obtain⟨c4,-⟩:=zc d.i4
   have z:=ze i
   clear d hx hF i
   gi_wp2
   refine⟨fun _ h=>(by cases h),?_⟩
   gi_wp2
   all_goals(try go_bits)
   exact Xa (ud m) (ud z) (ud q) (R _ _)
  |some f=>
   rw[hF]at d m i
   obtain⟨g0,g1,g2,g3,-⟩:=zc d.i3
   obtain⟨c4,-⟩:=zc d.i4
   have HC:=ze (zfd x f W)
   have J:=zd d.i3
   clear d hx hF
   by_cases ho:YH x f<0
   ·have z:=ze (i.trans (show jj YH (Q f) x=Q x by simp[jj,ho]))
    clear i
    generalize YH x f=O at*
    gi_wp2_with (first|(refine⟨trivial,?_⟩;gi_at_call 183;refine(CallsIn.inRound l (callsIn_wide.2 (ud HC))).mono ?_;rintro e w' ⟨rfl,a⟩;have d0:=(a.cell (p:=⟨v,0,I⟩) H).trans x0;have d1:=(a.cell (p:=⟨v,1,I⟩) H).trans x1;have d2:=(a.cell (p:=⟨v,2,I⟩) H).trans x2;have d3:=(a.cell (p:=⟨v,3,I⟩) H).trans x3;have e0:=(a.cell (p:=⟨w.1.size+2,0,I⟩) J).trans g0;have e1:=(a.cell (p:=⟨w.1.size+2,1,I⟩) J).trans g1;have e2:=(a.cell (p:=⟨w.1.size+2,2,I⟩) J).trans g2;have e3:=(a.cell (p:=⟨w.1.size+2,3,I⟩) J).trans g3;have e4:=(a.cell (p:=⟨w.1.size+3,0,I⟩) ac).trans c4;have a1:=fun j=>zD ((ud m).later a).i3 j;have ab:=fun j=>zD ((ud m).later a).i4 j;have V:=ze a;clear a)|gi_in)
    all_goals(try go_bits)
    exact Xa (ud m) (ud z) (ud q) (ud V)
   ·have z:=ze (i.trans (show jj YH (Q f) x=Q f by simp[jj,ho]))
    have ai:decide (YH x f<0)=false:=by simpa using ho
    clear i
    generalize YH x f=O at*
    gi_wp2_with (first|(refine⟨trivial,?_⟩;gi_at_call 183;refine(CallsIn.inRound l (callsIn_wide.2 (ud HC))).mono ?_;rintro e w' ⟨rfl,a⟩;have V:=ze a;clear a)|gi_in)
    all_goals(try go_bits)
    exact Kf (ud m) (ud z) (ud q) (ud V)
 case done=>
  rintro D xs W hD hS d hK
  have m:=ze d
  have HK:=ze hK
  have HS:=ze hS
  obtain⟨fo,X⟩:∃fo,yy YH xs=fo:=⟨_,rfl⟩
  rw[X]at d m
  obtain⟨g0,g1,g2,g3,-⟩:=zc d.i3
  obtain⟨c4,-⟩:=zc d.i4
  obtain⟨r0,r1,r2,r3,-⟩:=zc d.i2
  have a1:=fun j=>zD d.i2 j
  have aa:=ze X
  clear d hK hS X
  obtain⟨g,hg⟩:∃g,fo.getD qP=g:=⟨_,rfl⟩
  obtain⟨bb,hbb⟩:∃bb,fo.isSome=bb:=⟨_,rfl⟩
  rw[hg]at g0 g1 g2 g3
  rw[hbb]at c4
  have HG:=ze hg
  have a8:=ze hbb
  clear hg hbb
  gi_wp2
  gi_region
  gi_wp2
  have C:D≠w.1.size+1:=by omega
  have a6:=zgo (ud m).i2 (E U g.cnt) (E U g.sum) (E Z g.mn) (E Z g.mx)
  have a2:(((((W.setCell ⟨w.1.size+1,0,I⟩ (E U g.cnt)).setCell ⟨w.1.size+1,1,I⟩ (E U g.sum)).setCell ⟨w.1.size+1,2,I⟩ (E Z g.mn)).setCell ⟨w.1.size+1,3,I⟩ (E Z g.mx)).drew).1[D]?=Q (.deferred (Q [])):=by
   show((((W.setCell ⟨w.1.size+1,0,I⟩ (E U g.cnt)).setCell ⟨w.1.size+1,1,I⟩ (E U g.sum)).setCell ⟨w.1.size+1,2,I⟩ (E Z g.mn)).setCell ⟨w.1.size+1,3,I⟩ (E Z g.mx)).1[D]?=_
   rw[zT C,zT C,zT C,zT C];exact ud HK
  have a4:=((ud m).i5).trans (QJ (w:=W) (B:=w.1.size) (g:=w.1.size+1) (Nat.le_succ _) (E U g.cnt) (E U g.sum) (E Z g.mn) (E Z g.mx))
  refine⟨by simp,.inl ⟨_,_,rfl,run_takeDeferred a2,?_⟩⟩
  refine⟨_,zj results181 _ _ (w.1.size+1) _ _ _ _ _ rfl rfl ((World.putObj_heap_other (fun e=>C e.symm)).trans a6) underlying114 rfl (by kernel_rfl),xs,ud HS,?_,xD a4 (T _) (by omega) a2 _⟩
  rw[ud aa,ud HG,ud a8];rfl
 case stop=>
  rintro D c u W _ _ h _
  exact h.elim
theorem zcR(gf:Nat)(lb:Array G)(eg:∀args w,(callFunc gf args).run prog w=.ok (.enter gf args) w){Kp:Y->Y->Prop}{S Sp:List Cl->Prop}{N:Nat}(w:Y)(a5:jx w.1.size Kp)
  (M:SeqStopsK Fence.wide 6 prog gf lb (fun x:Cl=>#[.agg #[E U x.cnt,E U x.sum,E Z x.mn,E Z x.mx]]) Kp S Sp N w):
  Calls prog 181 #[.func (.func gf) #[] lb,.func (.func 185) #[] #[]] w fun e w'=>∃xs,S xs/\e=.returned (.tuple #[clV ((yy YI xs).getD qP),.bool (yy YI xs).isSome])/\P w.1.size w w':=by
 have a0:=ze M
 have q:=ze a5
 have a9:=ze eg
 obtain⟨b1,b2,b3,L,k⟩:=jr w (.cells #[.func (.func 185) #[] #[]] 256) (qo qP) (qo qP)
 have y:Hid (FI (.func (.func 185) #[] #[]) 256 w I ((((w.alloc (.cells #[.func (.func 185) #[] #[]] 256)).alloc (qo qP)).alloc (qo qP)).alloc (.cells #[.bool false] 4))):=
  ⟨(Below.heap_alloc _ _ _ (by rw[k];omega)).trans b1,(Below.heap_alloc _ _ _ (by rw[k];omega)).trans b2,(Below.heap_alloc _ _ _ (by rw[k];omega)).trans b3,by have:=zo (((w.alloc (.cells #[.func (.func 185) #[] #[]] 256)).alloc (qo qP)).alloc (qo qP)) (.cells #[.bool false] 4);rw[k]at this;exact this,L.alloc (by rw[k];omega) _⟩
 have BZ:Hid (((((w.alloc (.cells #[.func (.func 185) #[] #[]] 256)).alloc (qo qP)).alloc (qo qP)).alloc (.cells #[.bool false] 4)).1.size=w.1.size+4):=by show _=_;rw[zF,k]
 clear M a5 eg b1 b2 b3 L k
 unfold qo qP at y BZ
 dsimp only at y BZ
 refine(callsIn_wide (n:=7)).1 ?_
 refine callsIn_of_wp_marks func181 rfl trivial ?_ rfl
 simp only[ntmps181,List.size_toArray,List.length_cons,List.length_nil,Nat.reduceAdd,Nat.reduceSub,Array.replicate_succ,Array.replicate_zero,List.push_toArray,List.append_toArray,List.nil_append,List.cons_append]
 gi_wp2
 obtain⟨W0,a3⟩:∃W0,((((w.alloc (.cells #[.func (.func 185) #[] #[]] 256)).alloc (.cells #[E U 0,E U 0,E Z 0,E Z 0] 114)).alloc (.cells #[E U 0,E U 0,E Z 0,E Z 0] 114)).alloc (.cells #[.bool false] 4))=W0:=⟨_,rfl⟩
 rw[a3]at y BZ ⊢
 clear a3
 have hz:W0.1.size=w.1.size+4:=ud BZ
 refine wpIn_rangeFunc_ownH (F:=Fence.wide) (n:=7) rfl (by omega) (gf:=gf) (lb:=lb) rfl trivial (ud a9) (ud a0) (ud q).t (fun W l o o' hl=>(ud q).b W l o o' (by omega)) (ud y).i5 (fun _=>rfl)
  (fun u W=>FI (.func (.func 185) #[] #[]) 256 w (yy YI u) W)
  (fun _ _ _=>False)
  (fun s A B row hs hg hr=>FI.own (by omega) hs hg hr)
  (fun _ _ _ _ _ hs _ _=>hs)
  (ud y)
  (fun x a' W=>∃v,w.1.size+4<=v/\W.1[v]?=Q (.cells #[E U x.cnt,E U x.sum,E Z x.mn,E Z x.mx] 114 (0,0))/\a'={tmps:=#[.func (.func gf) #[] lb,.func (.func 185) #[] #[],undef,.pointer (Q ⟨w.1.size,0,I⟩),.pointer (Q ⟨w.1.size+1,0,I⟩),.bool false,.pointer (Q ⟨w.1.size+2,0,I⟩),.pointer (Q ⟨w.1.size+3,0,I⟩),.pointer (Q ⟨v,0,I⟩),.func (.func gf) #[] lb,.agg #[E U x.cnt,E U x.sum,E Z x.mn,E Z x.mx],undef,undef,undef,undef,undef,undef,undef,undef,undef,undef,undef,undef],defers:=[]})
  (fun x a' s A B row hs hg hr=>by
   obtain⟨v,h1,h2,h3⟩:=hs
   exact⟨v,h1,zG h2 hg (fun r e=>(hr r e).2),h3⟩) ?assign ?body ?done ?stop
 case assign=>
  rintro l u x W K d hK
  have a7:=d.i5.size
  have ag:=zd d.i4
  have HK:=ze hK
  have m:=ze d
  clear hK d
  gi_wp2
  refine ud HK _ _ ((KeepsOthers.alloc _ _).from _) ((ud q).of _ _ (KeepsOthers.alloc _ _) ((R _ W).alloc a7 _)) ((ud m).later ((R _ _).alloc (T _) _)) ⟨W.1.size,by omega,zo _ _,rfl⟩
 case body=>
  rintro l u x a' W hl ⟨r,hr⟩ d ⟨v,af,hx,rfl⟩ ah
  have a7:=d.i5.size
  have H:=zd hx
  have ac:=zd d.i4
  obtain⟨c1,-⟩:=zc d.i1
  obtain⟨x0,x1,x2,x3,-⟩:=zc hx
  have ad:¬v=w.1.size+2:=by omega
  have ae:¬v=w.1.size+3:=by omega
  have m:=ze d
  have HX:=ze hx
  have i:=kK YI u x
  cases hF:yy YI u with
  |none=>
   rw[hF]at d m i
   obtain⟨g0,g1,g2,g3,-⟩:=zc d.i3
   have a1:=fun j=>zD d.i3 j
   have ab:=fun j=>zD d.i4 j
   obtain⟨c4,-⟩:=zc d.i4
   have z:=ze i
   clear d hx hF i
   gi_wp2
   refine⟨fun _ h=>(by cases h),?_⟩
   gi_wp2
   all_goals(try go_bits)
   exact Xa (ud m) (ud z) (ud q) (R _ _)
  |some f=>
   rw[hF]at d m i
   obtain⟨g0,g1,g2,g3,-⟩:=zc d.i3
   obtain⟨c4,-⟩:=zc d.i4
   have HC:=ze (zfe x f W)
   have J:=zd d.i3
   clear d hx hF
   by_cases ho:YI x f<0
   ·have z:=ze (i.trans (show jj YI (Q f) x=Q x by simp[jj,ho]))
    clear i
    generalize YI x f=O at*
    gi_wp2_with (first|(refine⟨trivial,?_⟩;gi_at_call 185;refine(CallsIn.inRound l (callsIn_wide.2 (ud HC))).mono ?_;rintro e w' ⟨rfl,a⟩;have d0:=(a.cell (p:=⟨v,0,I⟩) H).trans x0;have d1:=(a.cell (p:=⟨v,1,I⟩) H).trans x1;have d2:=(a.cell (p:=⟨v,2,I⟩) H).trans x2;have d3:=(a.cell (p:=⟨v,3,I⟩) H).trans x3;have e0:=(a.cell (p:=⟨w.1.size+2,0,I⟩) J).trans g0;have e1:=(a.cell (p:=⟨w.1.size+2,1,I⟩) J).trans g1;have e2:=(a.cell (p:=⟨w.1.size+2,2,I⟩) J).trans g2;have e3:=(a.cell (p:=⟨w.1.size+2,3,I⟩) J).trans g3;have e4:=(a.cell (p:=⟨w.1.size+3,0,I⟩) ac).trans c4;have a1:=fun j=>zD ((ud m).later a).i3 j;have ab:=fun j=>zD ((ud m).later a).i4 j;have V:=ze a;clear a)|gi_in)
    all_goals(try go_bits)
    exact Xa (ud m) (ud z) (ud q) (ud V)
   ·have z:=ze (i.trans (show jj YI (Q f) x=Q f by simp[jj,ho]))
    have ai:decide (YI x f<0)=false:=by simpa using ho
    clear i
    generalize YI x f=O at*
    gi_wp2_with (first|(refine⟨trivial,?_⟩;gi_at_call 185;refine(CallsIn.inRound l (callsIn_wide.2 (ud HC))).mono ?_;rintro e w' ⟨rfl,a⟩;have V:=ze a;clear a)|gi_in)
    all_goals(try go_bits)
    exact Kf (ud m) (ud z) (ud q) (ud V)
 case done=>
  rintro D xs W hD hS d hK
  have m:=ze d
  have HK:=ze hK
  have HS:=ze hS
  obtain⟨fo,X⟩:∃fo,yy YI xs=fo:=⟨_,rfl⟩
  rw[X]at d m
  obtain⟨g0,g1,g2,g3,-⟩:=zc d.i3
  obtain⟨c4,-⟩:=zc d.i4
  obtain⟨r0,r1,r2,r3,-⟩:=zc d.i2
  have a1:=fun j=>zD d.i2 j
  have aa:=ze X
  clear d hK hS X
  obtain⟨g,hg⟩:∃g,fo.getD qP=g:=⟨_,rfl⟩
  obtain⟨bb,hbb⟩:∃bb,fo.isSome=bb:=⟨_,rfl⟩
  rw[hg]at g0 g1 g2 g3
  rw[hbb]at c4
  have HG:=ze hg
  have a8:=ze hbb
  clear hg hbb
  gi_wp2
  gi_region
  gi_wp2
  have C:D≠w.1.size+1:=by omega
  have a6:=zgo (ud m).i2 (E U g.cnt) (E U g.sum) (E Z g.mn) (E Z g.mx)
  have a2:(((((W.setCell ⟨w.1.size+1,0,I⟩ (E U g.cnt)).setCell ⟨w.1.size+1,1,I⟩ (E U g.sum)).setCell ⟨w.1.size+1,2,I⟩ (E Z g.mn)).setCell ⟨w.1.size+1,3,I⟩ (E Z g.mx)).drew).1[D]?=Q (.deferred (Q [])):=by
   show((((W.setCell ⟨w.1.size+1,0,I⟩ (E U g.cnt)).setCell ⟨w.1.size+1,1,I⟩ (E U g.sum)).setCell ⟨w.1.size+1,2,I⟩ (E Z g.mn)).setCell ⟨w.1.size+1,3,I⟩ (E Z g.mx)).1[D]?=_
   rw[zT C,zT C,zT C,zT C];exact ud HK
  have a4:=((ud m).i5).trans (QJ (w:=W) (B:=w.1.size) (g:=w.1.size+1) (Nat.le_succ _) (E U g.cnt) (E U g.sum) (E Z g.mn) (E Z g.mx))
  refine⟨by simp,.inl ⟨_,_,rfl,run_takeDeferred a2,?_⟩⟩
  refine⟨_,zj results181 _ _ (w.1.size+1) _ _ _ _ _ rfl rfl ((World.putObj_heap_other (fun e=>C e.symm)).trans a6) underlying114 rfl (by kernel_rfl),xs,ud HS,?_,xD a4 (T _) (by omega) a2 _⟩
  rw[ud aa,ud HG,ud a8];rfl
 case stop=>
  rintro D c u W _ _ h _
  exact h.elim
end Go.Proofs.YtpbimdkclnekeaaGreat
