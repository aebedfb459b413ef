import Derived.Test.YtndhpgciopcncaaGreatDoorYRef8
import Derived.Laws.OwnMore
import Derived.Deep.RegionHeld3
open Option renaming none → I
open Option renaming some → J
open Go.Value renaming int → O
open Go.IntKind renaming i64 → U
open Go renaming World → Y
set_option linter.unusedVariables false
set_option maxRecDepth 8000
set_option maxHeartbeats 4000000
open Go.Proofs.Tryz
namespace Go.Proofs.YtndhpgciopcncaaGreatDoor
open Go.RowKit
theorem zgQ{w:Y}{B:Nat}{e:TypeId}{size:Nat}{g n cap:Nat}{xs:List Value}(h:w.ownsRow B e size (.slice (J ⟨g,0,I⟩) n cap) n xs):∀j u,xs[j]?=J u->w.cell? ((⟨g,0,I⟩:Addr).add j)=J u:=h.cells (g:=g) rfl
theorem Y8{P:Program}(w:Y)(t p e:TypeId)(i:TypeInfo)(z:Value)(size b:Nat)(s:P.underlying t=J (.slice e))(q:P.info? e=J i)(E:i.zero=J z)
  (f:i.size=size) (l:i.bytes=b) (o:z.cells.size=size) (m:0<size) (B:Nat) (h:Value) (n:Nat) (xs:List Value) (d:w.ownsRow B e size h n xs) (x:∀u∈xs,u.oneCell'=true)
  (h63:n<=maxLen) (hbytes:n*b<=140737488355328):
  ∃a c w',(Builtin.append_ #[t,t] p #[.slice I 0 0,h]).run P w=.ok (.slice a n c) w'/\w'.ownsRow w.1.size e size (.slice a n c) n xs/\Below w.1.size w w':=by
 rcases d.2 with⟨rfl,rfl⟩|⟨g,cap,v,rfl,F,G,r⟩
 ·have D:xs=[]:=List.eq_nil_of_length_eq_zero (by have:=d.1;simpa using this)
  subst D
  exact⟨I,0,w,run_append_owned_none (P:=P) w w.1.size t p e i size s q _ 0 [] (World.ownsRow_nil _ _ _ _),World.ownsRow_nil _ _ _ _,Below.refl _ _⟩
 ·obtain⟨H,w',C,j,y,_,_⟩:=run_append_own_at (P:=P) w w.1.size t p e i z size b s q E f l o m (.slice I 0 0) 0 [] (World.ownsRow_nil _ _ _ _) ⟨g,0,I⟩ n cap xs d.1 (zgQ d) x (by omega) (by simpa using hbytes) (Nat.le_refl _)
  rw[Nat.zero_add,List.nil_append]at j
  obtain⟨a,c,rfl⟩:=zm j
  exact⟨a,c,w',C,j,(Below.refl _ _).grown y (Nat.le_refl _) (fun k A=>by cases A)⟩
theorem qM{P:Program}{w:Y}{ops:Array Oper}{o:Oper}{a:Act}{K:Act->Y->Prop}{Q:Exit->Act->Y->Prop}{E:Prop}(m:o.guard=I)(s x:Operand)(t:TypeId)
  (C:o.op=.call {callee:=.builtin .append,args:=#[s,x],argTypes:=#[t,t]})
  (e:TypeId) (z:Value) (size b:Nat) (G:P.underlying t=J (.slice e)) (c:(P.info? e).map (fun i=>(i.zero,i.size,i.bytes))=J (J z,size,b)) (r:z.cells.size=size) (q:0<size)
  (B:Nat) (f:Value) (n:Nat) (xs:List Value) (F:a.eval s=.slice I 0 0) (L:a.eval x=f) (g:w.ownsRow B e size f n xs) (v:∀u∈xs,u.oneCell'=true) (h63:n<=maxLen) (hbytes:n*b<=140737488355328)
  (h:∀j k w',w'.ownsRow w.1.size e size (.slice j n k) n xs->Below w.1.size w w'->K (a.put o.dst (.slice j n k)) w'):
  if Region.wanted o (yielded ops a.tmps)=true then Oper.wp P o a w K Q else E:=by
 have H:Region.wanted o (yielded ops a.tmps)=true:=by simp[Region.wanted,m]
 rw[if_pos H]
 cases p:P.info? e with
 |none=>simp[p]at c
 |some i=>
  simp only[p,Option.map_some,Option.some.injEq,Prod.mk.injEq]at c
  obtain⟨M,d,l⟩:=c
  obtain⟨j,k,w',D,y,A⟩:=Y8 (P:=P) w t o.type e i z size b G p M d l r q B f n xs g v h63 hbytes
  unfold Oper.wp
  simp[execOp,C,resolve,invoke,builtin,F,L,D,Result.andThen]
  exact h j k w' y A
theorem jw{w:Y}{base base' size n:Nat}{e:TypeId}{v:Value}{xs:List Value}(h:w.ownsRow base e size v n xs)(a:base'<=base):w.ownsRow base' e size v n xs:=yF h a
section
variable {B:Nat} {w:Y} {p:Nat} {m:RM} {tv nv pv gv kv z:Value}
theorem zQ.putNums{l:List Nm}(h:zQ B w p m tv nv pv gv kv)(b:w.ownsRow B 319 3 z l.length (l.flatMap nmV)):zQ B (w.setCell ⟨p,8,I⟩ z) p {m with nu:=l} tv z pv gv kv:=by
 have a:zk (fun k=>k=p) w (w.setCell ⟨p,8,I⟩ z):=zq (zk.refl _ _) rfl
 exact⟨xi (i:=8) h.head z,h.base,zg h.trow a (zx h.head h.trow (by decide)),zg b a (zx h.head b (by decide)),zg h.prow a (zx h.head h.prow (by decide)),zg h.grow a (zx h.head h.grow (by decide)),zg h.krow a (zx h.head h.krow (by decide))⟩
theorem zQ.putPub{l:List Sg}(h:zQ B w p m tv nv pv gv kv)(b:w.ownsRow B 287 3 z l.length (l.flatMap sgV)):zQ B (w.setCell ⟨p,9,I⟩ z) p {m with pub:=l} tv nv z gv kv:=by
 have a:zk (fun k=>k=p) w (w.setCell ⟨p,9,I⟩ z):=zq (zk.refl _ _) rfl
 exact⟨xi (i:=9) h.head z,h.base,zg h.trow a (zx h.head h.trow (by decide)),zg h.nrow a (zx h.head h.nrow (by decide)),zg b a (zx h.head b (by decide)),zg h.grow a (zx h.head h.grow (by decide)),zg h.krow a (zx h.head h.krow (by decide))⟩
theorem zQ.putGone{l:List Sg}(h:zQ B w p m tv nv pv gv kv)(b:w.ownsRow B 287 3 z l.length (l.flatMap sgV)):zQ B (w.setCell ⟨p,10,I⟩ z) p {m with gone:=l} tv nv pv z kv:=by
 have a:zk (fun k=>k=p) w (w.setCell ⟨p,10,I⟩ z):=zq (zk.refl _ _) rfl
 exact⟨xi (i:=10) h.head z,h.base,zg h.trow a (zx h.head h.trow (by decide)),zg h.nrow a (zx h.head h.nrow (by decide)),zg h.prow a (zx h.head h.prow (by decide)),zg b a (zx h.head b (by decide)),zg h.krow a (zx h.head h.krow (by decide))⟩
theorem zQ.putPicks(h:zQ B w p m tv nv pv gv kv)(n:Int):zQ B (w.setCell ⟨p,13,I⟩ (O U n)) p {m with picks:=n} tv nv pv gv kv:=by
 have a:zk (fun k=>k=p) w (w.setCell ⟨p,13,I⟩ (O U n)):=zq (zk.refl _ _) rfl
 exact⟨xi (i:=13) h.head _,h.base,zg h.trow a (zx h.head h.trow (by decide)),zg h.nrow a (zx h.head h.nrow (by decide)),zg h.prow a (zx h.head h.prow (by decide)),zg h.grow a (zx h.head h.grow (by decide)),zg h.krow a (zx h.head h.krow (by decide))⟩
end
def zge(w:Y)(m:RM)(q:Nat)(w':Y):Prop:=∃e d b a c,zQ w.1.size w' q m e d b a c/\Below w.1.size w w'/\∀k,b.ownBlock=J k->¬a.ownBlock=J k
theorem zeZ{B:Nat}{w:Y}{p:Nat}{m:RM}{tv nv pv gv kv:Value}(h:zQ B w p m tv nv pv gv kv)(hc:m.c.ok)(aG:m.nu.length<=1000000000)(aE:m.gone.length<=1000000000)(aH:m.pub.length<=1000000000)(aF:m.tk.length<=1000000000):
  Calls prog 141 #[.pointer (J ⟨p,0,I⟩)] w fun e w'=>∃q,e=.returned (.pointer (J ⟨q,0,I⟩))/\zge w m q w':=by
 obtain⟨a,cap,aC⟩:=zm h.trow
 subst aC
 obtain⟨c0,K,L,P,c4,c5,c6⟩:=h.conf
 obtain⟨-,-,-,-,-,u,-⟩:=h.rest
 have hp:=h.lt
 have Q:=zd h
 have ay:=zd (Va m.c hc a cap m.epoch w (TS.of_owns h.trow))
 have az:=zd (Va m.c hc a cap m.epoch w.drew (TS.of_owns h.trow))
 clear h
 go_enter func141,ntmps141
 go_wp2_with fail
 go_region_held3 (fun w'=>w'.cell? ⟨p,0,I⟩=J (O U m.c.s)/\w'.cell? ⟨p,1,I⟩=J (O U m.c.le)/\w'.cell? ⟨p,2,I⟩=J (O U m.c.la)/\w'.cell? ⟨p,3,I⟩=J (O U m.c.wi)/\w'.cell? ⟨p,4,I⟩=J (O U m.c.ke)/\w'.cell? ⟨p,5,I⟩=J (O U m.c.qu)/\w'.cell? ⟨p,6,I⟩=J (.slice a m.c.n cap)/\w'.cell? ⟨p,12,I⟩=J (O U m.epoch)) (go_keep) (first
  |(go_at_call 77;(first|refine(ud az).mono ?_|refine(ud ay).mono ?_);rintro e X0 ⟨q,tq,rfl,aw,T⟩;have d:Below w.1.size w X0:=⟨T.os,T.tape,T.output,T.size,T.block⟩;clear T;have M:=zd (show zQ w.1.size X0 q ⟨m.c,0,[],[],[],[],m.epoch,0⟩ tq (.slice I 0 0) (.slice I 0 0) (.slice I 0 0) (.slice I 0 0)from aw);clear aw;have d0:=(d.cell (p:=⟨p,0,I⟩) hp).trans c0;have d1:=(d.cell (p:=⟨p,1,I⟩) hp).trans K;have d2:=(d.cell (p:=⟨p,2,I⟩) hp).trans L;have d3:=(d.cell (p:=⟨p,3,I⟩) hp).trans P;have d4:=(d.cell (p:=⟨p,4,I⟩) hp).trans c4;have d5:=(d.cell (p:=⟨p,5,I⟩) hp).trans c5;have d6:=(d.cell (p:=⟨p,6,I⟩) hp).trans c6;have aA:=(d.cell (p:=⟨p,12,I⟩) hp).trans u))
 have HQ:=zd (ud M).base
 obtain⟨m7,m8,m9,l,o,F,G⟩:=((ud Q).later d).rest
 obtain⟨r7,r8,r9,r,t,ax,H⟩:=(ud M).rest
 have rf:∀j,X0.frozen? ⟨q,j,I⟩=false:=fun j=>zH (ud M).head j
 have aB:¬p=q:=by have:=ud HQ;omega
 have aD:¬q=p:=fun h=>aB h.symm
 clear c0 K L P c4 c5 c6 d0 d1 d2 d3 d4 d5 d6 aA r8 r9 r t u ax m8 m9 l o F
 go_wp2_with fail
 have W:=zd (((ud M).setNow m.now).putPicks m.picks)
 have v:=zd ((d.setCell (p:=⟨q,7,I⟩) (ud HQ) (O U m.now)).setCell (p:=⟨q,13,I⟩) (ud HQ) (O U m.picks))
 generalize((X0.setCell ⟨q,7,I⟩ (O U m.now)).setCell ⟨q,13,I⟩ (O U m.picks))=X1 at*
 clear d m7 G r7 H rf
 obtain⟨r7,r8,r9,r,t,u,H⟩:=(ud W).rest
 obtain⟨m7,m8,m9,l,o,F,G⟩:=((ud Q).later (ud v)).rest
 have i:=(ud W).lt
 have g:=((ud Q).later (ud v)).lt
 have b:=zd (((ud Q).later (ud v).drew).nrow)
 have h63:m.nu.length<=maxLen:=by simp only[maxLen];omega
 have f:m.nu.length*24<=140737488355328:=by omega
 clear r7 r9 r t u H m7 m9 l o F G
 go_wp2_with fail
 rename_i K1 aK1
 have ak:∀(R:Option Addr) (K:Nat) (Y1:Y),Hid (zQ w.1.size Y1 q {(⟨m.c,0,[],[],[],[],m.epoch,0⟩:RM)with now:=m.now,picks:=m.picks} tq (.slice I 0 0) (.slice I 0 0) (.slice I 0 0) (.slice I 0 0))->Hid (Y1.ownsRow w.1.size 319 3 (.slice R m.nu.length K) m.nu.length (m.nu.flatMap nmV))->Hid (Below w.1.size w Y1)->K1 {tmps:=#[.pointer (J ⟨p,0,I⟩),undef,.pointer I,.pointer (J ⟨q,0,I⟩),.pointer (J ⟨p,0,I⟩),.pointer (J ⟨p,0,I⟩),.pointer (J ⟨p,0,I⟩),.agg #[O U m.c.s,O U m.c.le,O U m.c.la,O U m.c.wi,O U m.c.ke,O U m.c.qu,.slice a m.c.n cap],.pointer (J ⟨p,0,I⟩),.pointer (J ⟨p,0,I⟩),.pointer (J ⟨p,12,I⟩),O U m.epoch,.pointer (J ⟨q,0,I⟩),.pointer (J ⟨q,0,I⟩),.pointer (J ⟨p,0,I⟩),.pointer (J ⟨p,0,I⟩),.pointer (J ⟨p,7,I⟩),O U m.now,.pointer (J ⟨q,0,I⟩),.pointer (J ⟨q,7,I⟩),.pointer (J ⟨q,0,I⟩),.pointer (J ⟨p,0,I⟩),.pointer (J ⟨p,0,I⟩),.pointer (J ⟨p,13,I⟩),O U m.picks,.pointer (J ⟨q,0,I⟩),.pointer (J ⟨q,13,I⟩),.pointer (J ⟨q,0,I⟩),.pointer (J ⟨q,0,I⟩),.pointer (J ⟨q,0,I⟩),.pointer (J ⟨q,8,I⟩),.slice I 0 0,.pointer (J ⟨p,0,I⟩),.pointer (J ⟨p,0,I⟩),.pointer (J ⟨p,8,I⟩),nv,.slice R m.nu.length K,.pointer (J ⟨q,0,I⟩),.pointer (J ⟨q,8,I⟩),undef,undef,undef,undef,undef,undef,undef,undef,undef,undef,undef,undef,undef,undef,undef,undef,undef,undef,undef,undef,undef,undef,undef,undef,undef,undef,undef,undef,undef,undef,undef,undef,undef,undef,undef,undef,undef],defers:=[]} (Y1.setCell ⟨q,8,I⟩ (.slice R m.nu.length K)):=by
  intro R K Y1 a8 ac ag
  refine aK1 _ _ ?_
  clear aK1 i g b h63 f r8 m8
  have X:=zd ((ud a8).putNums (ud ac))
  have x:=zd ((ud ag).setCell (p:=⟨q,8,I⟩) (ud HQ) (.slice R m.nu.length K))
  generalize(Y1.setCell ⟨q,8,I⟩ (.slice R m.nu.length K))=X2 at*
  obtain⟨r7,r8,r9,r,t,u,H⟩:=(ud X).rest
  obtain⟨m7,m8,m9,l,o,F,G⟩:=((ud Q).later (ud x)).rest
  have i:=(ud X).lt
  have g:=((ud Q).later (ud x)).lt
  have b:=zd (((ud Q).later (ud x).drew).prow)
  have h63:m.pub.length<=maxLen:=by simp only[maxLen];omega
  have f:m.pub.length*24<=140737488355328:=by omega
  clear r7 r8 r t u H m7 m8 l o F G
  go_wp2_with fail
  rename_i K2 aK2
  have al:∀(S:Option Addr) (L:Nat) (Y2:Y),Hid (zQ w.1.size Y2 q {(⟨m.c,0,[],[],[],[],m.epoch,0⟩:RM)with now:=m.now,picks:=m.picks,nu:=m.nu} tq (.slice R m.nu.length K) (.slice I 0 0) (.slice I 0 0) (.slice I 0 0))->Hid (Y2.ownsRow w.1.size 287 3 (.slice S m.pub.length L) m.pub.length (m.pub.flatMap sgV))->Hid (Below w.1.size w Y2)->K2 {tmps:=#[.pointer (J ⟨p,0,I⟩),undef,.pointer I,.pointer (J ⟨q,0,I⟩),.pointer (J ⟨p,0,I⟩),.pointer (J ⟨p,0,I⟩),.pointer (J ⟨p,0,I⟩),.agg #[O U m.c.s,O U m.c.le,O U m.c.la,O U m.c.wi,O U m.c.ke,O U m.c.qu,.slice a m.c.n cap],.pointer (J ⟨p,0,I⟩),.pointer (J ⟨p,0,I⟩),.pointer (J ⟨p,12,I⟩),O U m.epoch,.pointer (J ⟨q,0,I⟩),.pointer (J ⟨q,0,I⟩),.pointer (J ⟨p,0,I⟩),.pointer (J ⟨p,0,I⟩),.pointer (J ⟨p,7,I⟩),O U m.now,.pointer (J ⟨q,0,I⟩),.pointer (J ⟨q,7,I⟩),.pointer (J ⟨q,0,I⟩),.pointer (J ⟨p,0,I⟩),.pointer (J ⟨p,0,I⟩),.pointer (J ⟨p,13,I⟩),O U m.picks,.pointer (J ⟨q,0,I⟩),.pointer (J ⟨q,13,I⟩),.pointer (J ⟨q,0,I⟩),.pointer (J ⟨q,0,I⟩),.pointer (J ⟨q,0,I⟩),.pointer (J ⟨q,8,I⟩),.slice I 0 0,.pointer (J ⟨p,0,I⟩),.pointer (J ⟨p,0,I⟩),.pointer (J ⟨p,8,I⟩),nv,.slice R m.nu.length K,.pointer (J ⟨q,0,I⟩),.pointer (J ⟨q,8,I⟩),.pointer (J ⟨q,0,I⟩),.pointer (J ⟨q,0,I⟩),.pointer (J ⟨q,0,I⟩),.pointer (J ⟨q,9,I⟩),.slice I 0 0,.pointer (J ⟨p,0,I⟩),.pointer (J ⟨p,0,I⟩),.pointer (J ⟨p,9,I⟩),pv,.slice S m.pub.length L,.pointer (J ⟨q,0,I⟩),.pointer (J ⟨q,9,I⟩),undef,undef,undef,undef,undef,undef,undef,undef,undef,undef,undef,undef,undef,undef,undef,undef,undef,undef,undef,undef,undef,undef,undef,undef,undef],defers:=[]} (Y2.setCell ⟨q,9,I⟩ (.slice S m.pub.length L)):=by
   intro S L Y2 a9 ad ah
   refine aK2 _ _ ?_
   clear aK2 i g b h63 f r9 m9
   have N:=zd ((ud a9).putPub (ud ad))
   have y:=zd ((ud ah).setCell (p:=⟨q,9,I⟩) (ud HQ) (.slice S m.pub.length L))
   generalize(Y2.setCell ⟨q,9,I⟩ (.slice S m.pub.length L))=X3 at*
   obtain⟨r7,r8,r9,r,t,u,H⟩:=(ud N).rest
   obtain⟨m7,m8,m9,l,o,F,G⟩:=((ud Q).later (ud y)).rest
   have i:=(ud N).lt
   have g:=((ud Q).later (ud y)).lt
   have b:=zd (((ud Q).later (ud y).drew).grow)
   have h63:m.gone.length<=maxLen:=by simp only[maxLen];omega
   have f:m.gone.length*24<=140737488355328:=by omega
   clear r7 r8 r9 t u H m7 m8 m9 o F G
   go_wp2_with fail
   rename_i K3 aK3
   have am:∀(a3:Option Addr) (P:Nat) (Y3:Y),Hid (zQ w.1.size Y3 q {(⟨m.c,0,[],[],[],[],m.epoch,0⟩:RM)with now:=m.now,picks:=m.picks,nu:=m.nu,pub:=m.pub} tq (.slice R m.nu.length K) (.slice S m.pub.length L) (.slice I 0 0) (.slice I 0 0))->Hid (Y3.ownsRow w.1.size 287 3 (.slice a3 m.gone.length P) m.gone.length (m.gone.flatMap sgV))->Hid (Below w.1.size w Y3)->Hid (∀k,(Value.slice S m.pub.length L).ownBlock=J k->¬(Value.slice a3 m.gone.length P).ownBlock=J k)->K3 {tmps:=#[.pointer (J ⟨p,0,I⟩),undef,.pointer I,.pointer (J ⟨q,0,I⟩),.pointer (J ⟨p,0,I⟩),.pointer (J ⟨p,0,I⟩),.pointer (J ⟨p,0,I⟩),.agg #[O U m.c.s,O U m.c.le,O U m.c.la,O U m.c.wi,O U m.c.ke,O U m.c.qu,.slice a m.c.n cap],.pointer (J ⟨p,0,I⟩),.pointer (J ⟨p,0,I⟩),.pointer (J ⟨p,12,I⟩),O U m.epoch,.pointer (J ⟨q,0,I⟩),.pointer (J ⟨q,0,I⟩),.pointer (J ⟨p,0,I⟩),.pointer (J ⟨p,0,I⟩),.pointer (J ⟨p,7,I⟩),O U m.now,.pointer (J ⟨q,0,I⟩),.pointer (J ⟨q,7,I⟩),.pointer (J ⟨q,0,I⟩),.pointer (J ⟨p,0,I⟩),.pointer (J ⟨p,0,I⟩),.pointer (J ⟨p,13,I⟩),O U m.picks,.pointer (J ⟨q,0,I⟩),.pointer (J ⟨q,13,I⟩),.pointer (J ⟨q,0,I⟩),.pointer (J ⟨q,0,I⟩),.pointer (J ⟨q,0,I⟩),.pointer (J ⟨q,8,I⟩),.slice I 0 0,.pointer (J ⟨p,0,I⟩),.pointer (J ⟨p,0,I⟩),.pointer (J ⟨p,8,I⟩),nv,.slice R m.nu.length K,.pointer (J ⟨q,0,I⟩),.pointer (J ⟨q,8,I⟩),.pointer (J ⟨q,0,I⟩),.pointer (J ⟨q,0,I⟩),.pointer (J ⟨q,0,I⟩),.pointer (J ⟨q,9,I⟩),.slice I 0 0,.pointer (J ⟨p,0,I⟩),.pointer (J ⟨p,0,I⟩),.pointer (J ⟨p,9,I⟩),pv,.slice S m.pub.length L,.pointer (J ⟨q,0,I⟩),.pointer (J ⟨q,9,I⟩),.pointer (J ⟨q,0,I⟩),.pointer (J ⟨q,0,I⟩),.pointer (J ⟨q,0,I⟩),.pointer (J ⟨q,10,I⟩),.slice I 0 0,.pointer (J ⟨p,0,I⟩),.pointer (J ⟨p,0,I⟩),.pointer (J ⟨p,10,I⟩),gv,.slice a3 m.gone.length P,.pointer (J ⟨q,0,I⟩),.pointer (J ⟨q,10,I⟩),undef,undef,undef,undef,undef,undef,undef,undef,undef,undef,undef,undef,undef],defers:=[]} (Y3.setCell ⟨q,10,I⟩ (.slice a3 m.gone.length P)):=by
    intro a3 P Y3 aa ae ai V
    refine aK3 _ _ ?_
    clear aK3 i g b h63 f r l
    have Z:=zd ((ud aa).putGone (ud ae))
    have z:=zd ((ud ai).setCell (p:=⟨q,10,I⟩) (ud HQ) (.slice a3 m.gone.length P))
    generalize(Y3.setCell ⟨q,10,I⟩ (.slice a3 m.gone.length P))=X4 at*
    obtain⟨r7,r8,r9,r,t,u,H⟩:=(ud Z).rest
    obtain⟨m7,m8,m9,l,o,F,G⟩:=((ud Q).later (ud z)).rest
    have i:=(ud Z).lt
    have g:=((ud Q).later (ud z)).lt
    have b:=zd (((ud Q).later (ud z).drew).krow)
    have h63:m.tk.length<=maxLen:=by simp only[maxLen];omega
    have f:m.tk.length*88<=140737488355328:=by omega
    clear r7 r8 r9 r u H m7 m8 m9 l F G
    go_wp2_with fail
    rename_i K4 aK4
    have an:∀(a4:Option Addr) (c4:Nat) (Y4:Y),Hid (zQ w.1.size Y4 q {(⟨m.c,0,[],[],[],[],m.epoch,0⟩:RM)with now:=m.now,picks:=m.picks,nu:=m.nu,pub:=m.pub,gone:=m.gone} tq (.slice R m.nu.length K) (.slice S m.pub.length L) (.slice a3 m.gone.length P) (.slice I 0 0))->Hid (Y4.ownsRow w.1.size 294 11 (.slice a4 m.tk.length c4) m.tk.length (m.tk.flatMap tkV))->Hid (Below w.1.size w Y4)->K4 {tmps:=#[.pointer (J ⟨p,0,I⟩),undef,.pointer I,.pointer (J ⟨q,0,I⟩),.pointer (J ⟨p,0,I⟩),.pointer (J ⟨p,0,I⟩),.pointer (J ⟨p,0,I⟩),.agg #[O U m.c.s,O U m.c.le,O U m.c.la,O U m.c.wi,O U m.c.ke,O U m.c.qu,.slice a m.c.n cap],.pointer (J ⟨p,0,I⟩),.pointer (J ⟨p,0,I⟩),.pointer (J ⟨p,12,I⟩),O U m.epoch,.pointer (J ⟨q,0,I⟩),.pointer (J ⟨q,0,I⟩),.pointer (J ⟨p,0,I⟩),.pointer (J ⟨p,0,I⟩),.pointer (J ⟨p,7,I⟩),O U m.now,.pointer (J ⟨q,0,I⟩),.pointer (J ⟨q,7,I⟩),.pointer (J ⟨q,0,I⟩),.pointer (J ⟨p,0,I⟩),.pointer (J ⟨p,0,I⟩),.pointer (J ⟨p,13,I⟩),O U m.picks,.pointer (J ⟨q,0,I⟩),.pointer (J ⟨q,13,I⟩),.pointer (J ⟨q,0,I⟩),.pointer (J ⟨q,0,I⟩),.pointer (J ⟨q,0,I⟩),.pointer (J ⟨q,8,I⟩),.slice I 0 0,.pointer (J ⟨p,0,I⟩),.pointer (J ⟨p,0,I⟩),.pointer (J ⟨p,8,I⟩),nv,.slice R m.nu.length K,.pointer (J ⟨q,0,I⟩),.pointer (J ⟨q,8,I⟩),.pointer (J ⟨q,0,I⟩),.pointer (J ⟨q,0,I⟩),.pointer (J ⟨q,0,I⟩),.pointer (J ⟨q,9,I⟩),.slice I 0 0,.pointer (J ⟨p,0,I⟩),.pointer (J ⟨p,0,I⟩),.pointer (J ⟨p,9,I⟩),pv,.slice S m.pub.length L,.pointer (J ⟨q,0,I⟩),.pointer (J ⟨q,9,I⟩),.pointer (J ⟨q,0,I⟩),.pointer (J ⟨q,0,I⟩),.pointer (J ⟨q,0,I⟩),.pointer (J ⟨q,10,I⟩),.slice I 0 0,.pointer (J ⟨p,0,I⟩),.pointer (J ⟨p,0,I⟩),.pointer (J ⟨p,10,I⟩),gv,.slice a3 m.gone.length P,.pointer (J ⟨q,0,I⟩),.pointer (J ⟨q,10,I⟩),.pointer (J ⟨q,0,I⟩),.pointer (J ⟨q,0,I⟩),.pointer (J ⟨q,0,I⟩),.pointer (J ⟨q,11,I⟩),.slice I 0 0,.pointer (J ⟨p,0,I⟩),.pointer (J ⟨p,0,I⟩),.pointer (J ⟨p,11,I⟩),kv,.slice a4 m.tk.length c4,.pointer (J ⟨q,0,I⟩),.pointer (J ⟨q,11,I⟩),undef],defers:=[]} (Y4.setCell ⟨q,11,I⟩ (.slice a4 m.tk.length c4)):=by
     intro a4 c4 Y4 ab af aj
     refine aK4 _ _ ?_
     clear aK4 i g b h63 f t o
     have ap:=zd ((ud ab).setTasks (ud af))
     have aq:=zd ((ud aj).setCell (p:=⟨q,11,I⟩) (ud HQ) (.slice a4 m.tk.length c4))
     generalize(Y4.setCell ⟨q,11,I⟩ (.slice a4 m.tk.length c4))=X5 at*
     go_wp2_with fail
     go_ret
     exact⟨q,rfl,⟨_,_,_,_,_,ud ap,ud aq,ud V⟩⟩
    clear aK4
    go_region_law (refine qM rfl (.tmp 67) (.tmp 71) 226 rfl 294 _ 11 88 underlying226 Tryz.infoTask rfl (by decide) B kv m.tk.length (m.tk.flatMap tkV) (by simp[Act.eval]) (by simp[Act.eval]) (ud b) (XY zfL _) h63 f ?_;intro a4 c4 Y4 av E;have a7:Below X4.1.size X4 Y4:=⟨E.os,E.tape,E.output,E.size,E.block⟩;clear E;have ab:=zd ((ud Z).later a7);have af:=zd (jw (base':=w.1.size) av (ud z).size);have aj:=zd ((ud z).trans (a7.mono (ud z).size));clear av;have rf:∀j,Y4.frozen? ⟨q,j,I⟩=false:=(fun j=>zH (ud ab).head j);have yq:=(a7.cell (p:=⟨q,11,I⟩) i).trans t;have yp:=(a7.cell (p:=⟨p,11,I⟩) g).trans o;clear a7)
    all_goals exact an _ _ _ ab af aj
   clear aK3
   go_region_law (refine qM rfl (.tmp 55) (.tmp 59) 225 rfl 287 _ 3 24 underlying225 Tryz.infoSegment rfl (by decide) B gv m.gone.length (m.gone.flatMap sgV) (by simp[Act.eval]) (by simp[Act.eval]) (ud b) (XY zfp _) h63 f ?_;intro a3 P Y3 ao D;have a6:Below X3.1.size X3 Y3:=⟨D.os,D.tape,D.output,D.size,D.block⟩;clear D;have aa:=zd ((ud N).later a6);have ae:=zd (jw (base':=w.1.size) ao (ud y).size);have ai:=zd ((ud y).trans (a6.mono (ud y).size));have V:Hid (∀k,(Value.slice S m.pub.length L).ownBlock=J k->¬(Value.slice a3 m.gone.length P).ownBlock=J k):=(fun k e1 e2=>by have z1:=((ud N).prow.lt k e1).2;have z2:X3.1.size<=k:=(ao.lt k e2).1;omega);clear ao;have rf:∀j,Y3.frozen? ⟨q,j,I⟩=false:=(fun j=>zH (ud aa).head j);have yq:=(a6.cell (p:=⟨q,10,I⟩) i).trans r;have yp:=(a6.cell (p:=⟨p,10,I⟩) g).trans l;clear a6)
   all_goals exact am _ _ _ aa ae ai V
  clear aK2
  go_region_law (refine qM rfl (.tmp 43) (.tmp 47) 225 rfl 287 _ 3 24 underlying225 Tryz.infoSegment rfl (by decide) B pv m.pub.length (m.pub.flatMap sgV) (by simp[Act.eval]) (by simp[Act.eval]) (ud b) (XY zfp _) h63 f ?_;intro S L Y2 au C;have a5:Below X2.1.size X2 Y2:=⟨C.os,C.tape,C.output,C.size,C.block⟩;clear C;have a9:=zd ((ud X).later a5);have ad:=zd (jw (base':=w.1.size) au (ud x).size);have ah:=zd ((ud x).trans (a5.mono (ud x).size));clear au;have rf:∀j,Y2.frozen? ⟨q,j,I⟩=false:=(fun j=>zH (ud a9).head j);have yq:=(a5.cell (p:=⟨q,9,I⟩) i).trans r9;have yp:=(a5.cell (p:=⟨p,9,I⟩) g).trans m9;clear a5)
  all_goals exact al _ _ _ a9 ad ah
 clear aK1
 go_region_law (refine qM rfl (.tmp 31) (.tmp 35) 224 rfl 319 _ 3 24 underlying224 Tryz.infoNumber rfl (by decide) B nv m.nu.length (m.nu.flatMap nmV) (by simp[Act.eval]) (by simp[Act.eval]) (ud b) (XY zeE _) h63 f ?_;intro R K Y1 ar A;have a0:Below X1.1.size X1 Y1:=⟨A.os,A.tape,A.output,A.size,A.block⟩;clear A;have a8:=zd ((ud W).later a0);have ac:=zd (jw (base':=w.1.size) ar (ud v).size);have ag:=zd ((ud v).trans (a0.mono (ud v).size));clear ar;have rf:∀j,Y1.frozen? ⟨q,j,I⟩=false:=(fun j=>zH (ud a8).head j);have yq:=(a0.cell (p:=⟨q,8,I⟩) i).trans r8;have yp:=(a0.cell (p:=⟨p,8,I⟩) g).trans m8;clear a0)
 all_goals exact ak _ _ _ a8 ac ag
end Go.Proofs.YtndhpgciopcncaaGreatDoor
