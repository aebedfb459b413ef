import Derived.Test.YtpbimdkclnekeaaGreatVRefE
import Derived.Laws.OwnMore
import Derived.Deep.RegionHeld3
open Option renaming none → I
open Option renaming some → J
open Go.Value renaming int → O
open Go.IntKind renaming i64 → U
open Go renaming World → Y
set_option linter.unusedVariables false
set_option maxRecDepth 8000
set_option maxHeartbeats 4000000
open Go.Proofs.Tryz
namespace Go.Proofs.YtpbimdkclnekeaaGreat
open Go.RowKit
theorem zhV{w:Y}{B:Nat}{e:TypeId}{size:Nat}{g n cap:Nat}{xs:List Value}(h:w.ownsRow B e size (.slice (J ⟨g,0,I⟩) n cap) n xs):∀j u,xs[j]?=J u->w.cell? ((⟨g,0,I⟩:Addr).add j)=J u:=h.cells (g:=g) rfl
theorem Yv{P:Program}(w:Y)(t o e:TypeId)(i:TypeInfo)(z:Value)(size b:Nat)(q:P.underlying t=J (.slice e))(p:P.info? e=J i)(D:i.zero=J z)
  (f:i.size=size) (hby:i.bytes=b) (m:z.cells.size=size) (l:0<size) (B:Nat) (h:Value) (n:Nat) (xs:List Value) (d:w.ownsRow B e size h n xs) (v:∀u∈xs,u.oneCell'=true)
  (h63:n<=maxLen) (hbytes:n*b<=140737488355328):
  ∃a c w',(Builtin.append_ #[t,t] o #[.slice I 0 0,h]).run P w=.ok (.slice a n c) w'/\w'.ownsRow w.1.size e size (.slice a n c) n xs/\Below w.1.size w w':=by
 rcases d.2 with⟨rfl,rfl⟩|⟨g,cap,s,rfl,E,F,r⟩
 ·have C:xs=[]:=List.eq_nil_of_length_eq_zero (by have:=d.1;simpa using this)
  subst C
  exact⟨I,0,w,run_append_owned_none (P:=P) w w.1.size t o e i size q p _ 0 [] (World.ownsRow_nil _ _ _ _),World.ownsRow_nil _ _ _ _,Below.refl _ _⟩
 ·obtain⟨G,w',A,j,x,_,_⟩:=run_append_own_at (P:=P) w w.1.size t o e i z size b q p D f hby m l (.slice I 0 0) 0 [] (World.ownsRow_nil _ _ _ _) ⟨g,0,I⟩ n cap xs d.1 (zhV d) v (by omega) (by simpa using hbytes) (Nat.le_refl _)
  rw[Nat.zero_add,List.nil_append]at j
  obtain⟨a,c,rfl⟩:=zq j
  exact⟨a,c,w',A,j,(Below.refl _ _).grown x (Nat.le_refl _) (fun k y=>by cases y)⟩
theorem yg{P:Program}{w:Y}{ops:Array Oper}{o:Oper}{a:Act}{K:Act->Y->Prop}{Q:Exit->Act->Y->Prop}{E:Prop}(k:o.guard=I)(s x:Operand)(t:TypeId)
  (y:o.op=.call {callee:=.builtin .append,args:=#[s,x],argTypes:=#[t,t]})
  (e:TypeId) (z:Value) (size b:Nat) (D:P.underlying t=J (.slice e)) (c:(P.info? e).map (fun i=>(i.zero,i.size,i.bytes))=J (J z,size,b)) (p:z.cells.size=size) (m:0<size)
  (B:Nat) (f:Value) (n:Nat) (xs:List Value) (C:a.eval s=.slice I 0 0) (G:a.eval x=f) (g:w.ownsRow B e size f n xs) (q:∀u∈xs,u.oneCell'=true) (h63:n<=maxLen) (hbytes:n*b<=140737488355328)
  (h:∀a' j w',w'.ownsRow w.1.size e size (.slice a' n j) n xs->Below w.1.size w w'->K (a.put o.dst (.slice a' n j)) w'):
  if Region.wanted o (yielded ops a.tmps)=true then Oper.wp P o a w K Q else E:=by
 have F:Region.wanted o (yielded ops a.tmps)=true:=by simp[Region.wanted,k]
 rw[if_pos F]
 cases l:P.info? e with
 |none=>simp[l]at c
 |some i=>
  simp only[l,Option.map_some,Option.some.injEq,Prod.mk.injEq]at c
  obtain⟨H,d,hby⟩:=c
  obtain⟨a',j,w',A,r,v⟩:=Yv (P:=P) w t o.type e i z size b D l H d hby p m B f n xs g q h63 hbytes
  unfold Oper.wp
  simp[execOp,y,resolve,invoke,builtin,C,G,A,Result.andThen]
  exact h a' j w' r v
theorem jZ{w:Y}{base base' size n:Nat}{e:TypeId}{v:Value}{xs:List Value}(h:w.ownsRow base e size v n xs)(a:base'<=base):w.ownsRow base' e size v n xs:=yE h a
section
variable {B:Nat} {w:Y} {p:Nat} {m:RM} {tv nv pv gv kv z:Value}
theorem zJ.putNums{l:List Nm}(h:zJ B w p m tv nv pv gv kv)(b:w.ownsRow B 269 3 z l.length (l.flatMap nmV)):zJ B (w.setCell ⟨p,8,I⟩ z) p {m with nu:=l} tv z pv gv kv:=by
 have a:zk (fun k=>k=p) w (w.setCell ⟨p,8,I⟩ z):=zn (zk.refl _ _) rfl
 exact⟨xm (i:=8) h.head z,h.base,zi h.trow a (zt h.head h.trow (by decide)),zi b a (zt h.head b (by decide)),zi h.prow a (zt h.head h.prow (by decide)),zi h.grow a (zt h.head h.grow (by decide)),zi h.krow a (zt h.head h.krow (by decide))⟩
theorem zJ.putPub{l:List Sg}(h:zJ B w p m tv nv pv gv kv)(b:w.ownsRow B 232 3 z l.length (l.flatMap sgV)):zJ B (w.setCell ⟨p,9,I⟩ z) p {m with pub:=l} tv nv z gv kv:=by
 have a:zk (fun k=>k=p) w (w.setCell ⟨p,9,I⟩ z):=zn (zk.refl _ _) rfl
 exact⟨xm (i:=9) h.head z,h.base,zi h.trow a (zt h.head h.trow (by decide)),zi h.nrow a (zt h.head h.nrow (by decide)),zi b a (zt h.head b (by decide)),zi h.grow a (zt h.head h.grow (by decide)),zi h.krow a (zt h.head h.krow (by decide))⟩
theorem zJ.putGone{l:List Sg}(h:zJ B w p m tv nv pv gv kv)(b:w.ownsRow B 232 3 z l.length (l.flatMap sgV)):zJ B (w.setCell ⟨p,10,I⟩ z) p {m with gone:=l} tv nv pv z kv:=by
 have a:zk (fun k=>k=p) w (w.setCell ⟨p,10,I⟩ z):=zn (zk.refl _ _) rfl
 exact⟨xm (i:=10) h.head z,h.base,zi h.trow a (zt h.head h.trow (by decide)),zi h.nrow a (zt h.head h.nrow (by decide)),zi h.prow a (zt h.head h.prow (by decide)),zi b a (zt h.head b (by decide)),zi h.krow a (zt h.head h.krow (by decide))⟩
theorem zJ.putPicks(h:zJ B w p m tv nv pv gv kv)(n:Int):zJ B (w.setCell ⟨p,13,I⟩ (O U n)) p {m with picks:=n} tv nv pv gv kv:=by
 have a:zk (fun k=>k=p) w (w.setCell ⟨p,13,I⟩ (O U n)):=zn (zk.refl _ _) rfl
 exact⟨xm (i:=13) h.head _,h.base,zi h.trow a (zt h.head h.trow (by decide)),zi h.nrow a (zt h.head h.nrow (by decide)),zi h.prow a (zt h.head h.prow (by decide)),zi h.grow a (zt h.head h.grow (by decide)),zi h.krow a (zt h.head h.krow (by decide))⟩
end
def zhq(w:Y)(m:RM)(q:Nat)(w':Y):Prop:=∃e d b a c,zJ w.1.size w' q m e d b a c/\Below w.1.size w w'/\∀k,b.ownBlock=J k->¬a.ownBlock=J k
theorem JS{B:Nat}{w:Y}{p:Nat}{m:RM}{tv nv pv gv kv:Value}(h:zJ B w p m tv nv pv gv kv)(hc:m.c.ok)(aG:m.nu.length<=1000000000)(aE:m.gone.length<=1000000000)(aH:m.pub.length<=1000000000)(aF:m.tg.length<=1000000000):
  Calls prog 104 #[.pointer (J ⟨p,0,I⟩)] w fun e w'=>∃q,e=.returned (.pointer (J ⟨q,0,I⟩))/\zhq w m q w':=by
 obtain⟨a,cap,aC⟩:=zq h.trow
 subst aC
 obtain⟨c0,H,K,N,c4,c5,c6⟩:=h.conf
 obtain⟨-,-,-,-,-,t,-⟩:=h.rest
 have hp:=h.lt
 have P:=ze h
 have ay:=ze (VE m.c hc a cap m.epoch w (TS.of_owns h.trow))
 have az:=ze (VE m.c hc a cap m.epoch w.drew (TS.of_owns h.trow))
 clear h
 go_enter func104,ntmps104
 go_wp2_with fail
 go_region_held3 (fun w'=>w'.cell? ⟨p,0,I⟩=J (O U m.c.s)/\w'.cell? ⟨p,1,I⟩=J (O U m.c.le)/\w'.cell? ⟨p,2,I⟩=J (O U m.c.la)/\w'.cell? ⟨p,3,I⟩=J (O U m.c.wi)/\w'.cell? ⟨p,4,I⟩=J (O U m.c.ke)/\w'.cell? ⟨p,5,I⟩=J (O U m.c.qu)/\w'.cell? ⟨p,6,I⟩=J (.slice a m.c.n cap)/\w'.cell? ⟨p,12,I⟩=J (O U m.epoch)) (go_keep) (first
  |(go_at_call 52;(first|refine(ud az).mono ?_|refine(ud ay).mono ?_);rintro e X0 ⟨q,tq,rfl,aw,S⟩;have d:Below w.1.size w X0:=⟨S.os,S.tape,S.output,S.size,S.block⟩;clear S;have L:=ze (show zJ w.1.size X0 q ⟨m.c,0,[],[],[],[],m.epoch,0⟩ tq (.slice I 0 0) (.slice I 0 0) (.slice I 0 0) (.slice I 0 0)from aw);clear aw;have d0:=(d.cell (p:=⟨p,0,I⟩) hp).trans c0;have d1:=(d.cell (p:=⟨p,1,I⟩) hp).trans H;have d2:=(d.cell (p:=⟨p,2,I⟩) hp).trans K;have d3:=(d.cell (p:=⟨p,3,I⟩) hp).trans N;have d4:=(d.cell (p:=⟨p,4,I⟩) hp).trans c4;have d5:=(d.cell (p:=⟨p,5,I⟩) hp).trans c5;have d6:=(d.cell (p:=⟨p,6,I⟩) hp).trans c6;have aA:=(d.cell (p:=⟨p,12,I⟩) hp).trans t))
 have HQ:=ze (ud L).base
 obtain⟨m7,m8,m9,i,l,E,F⟩:=((ud P).later d).rest
 obtain⟨r7,r8,r9,o,r,ax,G⟩:=(ud L).rest
 have rf:∀j,X0.frozen? ⟨q,j,I⟩=false:=fun j=>zD (ud L).head j
 have aB:¬p=q:=by have:=ud HQ;omega
 have aD:¬q=p:=fun h=>aB h.symm
 clear c0 H K N c4 c5 c6 d0 d1 d2 d3 d4 d5 d6 aA r8 r9 o r t ax m8 m9 i l E
 go_wp2_with fail
 have V:=ze (((ud L).setNow m.now).putPicks m.picks)
 have u:=ze ((d.setCell (p:=⟨q,7,I⟩) (ud HQ) (O U m.now)).setCell (p:=⟨q,13,I⟩) (ud HQ) (O U m.picks))
 generalize((X0.setCell ⟨q,7,I⟩ (O U m.now)).setCell ⟨q,13,I⟩ (O U m.picks))=X1 at*
 clear d m7 F r7 G rf
 obtain⟨r7,r8,r9,o,r,t,G⟩:=(ud V).rest
 obtain⟨m7,m8,m9,i,l,E,F⟩:=((ud P).later (ud u)).rest
 have g:=(ud V).lt
 have f:=((ud P).later (ud u)).lt
 have b:=ze (((ud P).later (ud u).drew).nrow)
 have h63:m.nu.length<=maxLen:=by simp only[maxLen];omega
 have hby:m.nu.length*24<=140737488355328:=by omega
 clear r7 r9 o r t G m7 m9 i l E F
 go_wp2_with fail
 rename_i K1 aK1
 have ak:∀(Q:Option Addr) (H:Nat) (Y1:Y),Hid (zJ w.1.size Y1 q {(⟨m.c,0,[],[],[],[],m.epoch,0⟩:RM)with now:=m.now,picks:=m.picks} tq (.slice I 0 0) (.slice I 0 0) (.slice I 0 0) (.slice I 0 0))->Hid (Y1.ownsRow w.1.size 269 3 (.slice Q m.nu.length H) m.nu.length (m.nu.flatMap nmV))->Hid (Below w.1.size w Y1)->K1 {tmps:=#[.pointer (J ⟨p,0,I⟩),undef,.pointer I,.pointer (J ⟨q,0,I⟩),.pointer (J ⟨p,0,I⟩),.pointer (J ⟨p,0,I⟩),.pointer (J ⟨p,0,I⟩),.agg #[O U m.c.s,O U m.c.le,O U m.c.la,O U m.c.wi,O U m.c.ke,O U m.c.qu,.slice a m.c.n cap],.pointer (J ⟨p,0,I⟩),.pointer (J ⟨p,0,I⟩),.pointer (J ⟨p,12,I⟩),O U m.epoch,.pointer (J ⟨q,0,I⟩),.pointer (J ⟨q,0,I⟩),.pointer (J ⟨p,0,I⟩),.pointer (J ⟨p,0,I⟩),.pointer (J ⟨p,7,I⟩),O U m.now,.pointer (J ⟨q,0,I⟩),.pointer (J ⟨q,7,I⟩),.pointer (J ⟨q,0,I⟩),.pointer (J ⟨p,0,I⟩),.pointer (J ⟨p,0,I⟩),.pointer (J ⟨p,13,I⟩),O U m.picks,.pointer (J ⟨q,0,I⟩),.pointer (J ⟨q,13,I⟩),.pointer (J ⟨q,0,I⟩),.pointer (J ⟨q,0,I⟩),.pointer (J ⟨q,0,I⟩),.pointer (J ⟨q,8,I⟩),.slice I 0 0,.pointer (J ⟨p,0,I⟩),.pointer (J ⟨p,0,I⟩),.pointer (J ⟨p,8,I⟩),nv,.slice Q m.nu.length H,.pointer (J ⟨q,0,I⟩),.pointer (J ⟨q,8,I⟩),undef,undef,undef,undef,undef,undef,undef,undef,undef,undef,undef,undef,undef,undef,undef,undef,undef,undef,undef,undef,undef,undef,undef,undef,undef,undef,undef,undef,undef,undef,undef,undef,undef,undef,undef,undef,undef],defers:=[]} (Y1.setCell ⟨q,8,I⟩ (.slice Q m.nu.length H)):=by
  intro Q H Y1 a8 ac ag
  refine aK1 _ _ ?_
  clear aK1 g f b h63 hby r8 m8
  have W:=ze ((ud a8).putNums (ud ac))
  have v:=ze ((ud ag).setCell (p:=⟨q,8,I⟩) (ud HQ) (.slice Q m.nu.length H))
  generalize(Y1.setCell ⟨q,8,I⟩ (.slice Q m.nu.length H))=X2 at*
  obtain⟨r7,r8,r9,o,r,t,G⟩:=(ud W).rest
  obtain⟨m7,m8,m9,i,l,E,F⟩:=((ud P).later (ud v)).rest
  have g:=(ud W).lt
  have f:=((ud P).later (ud v)).lt
  have b:=ze (((ud P).later (ud v).drew).prow)
  have h63:m.pub.length<=maxLen:=by simp only[maxLen];omega
  have hby:m.pub.length*24<=140737488355328:=by omega
  clear r7 r8 o r t G m7 m8 i l E F
  go_wp2_with fail
  rename_i K2 aK2
  have al:∀(R:Option Addr) (K:Nat) (Y2:Y),Hid (zJ w.1.size Y2 q {(⟨m.c,0,[],[],[],[],m.epoch,0⟩:RM)with now:=m.now,picks:=m.picks,nu:=m.nu} tq (.slice Q m.nu.length H) (.slice I 0 0) (.slice I 0 0) (.slice I 0 0))->Hid (Y2.ownsRow w.1.size 232 3 (.slice R m.pub.length K) m.pub.length (m.pub.flatMap sgV))->Hid (Below w.1.size w Y2)->K2 {tmps:=#[.pointer (J ⟨p,0,I⟩),undef,.pointer I,.pointer (J ⟨q,0,I⟩),.pointer (J ⟨p,0,I⟩),.pointer (J ⟨p,0,I⟩),.pointer (J ⟨p,0,I⟩),.agg #[O U m.c.s,O U m.c.le,O U m.c.la,O U m.c.wi,O U m.c.ke,O U m.c.qu,.slice a m.c.n cap],.pointer (J ⟨p,0,I⟩),.pointer (J ⟨p,0,I⟩),.pointer (J ⟨p,12,I⟩),O U m.epoch,.pointer (J ⟨q,0,I⟩),.pointer (J ⟨q,0,I⟩),.pointer (J ⟨p,0,I⟩),.pointer (J ⟨p,0,I⟩),.pointer (J ⟨p,7,I⟩),O U m.now,.pointer (J ⟨q,0,I⟩),.pointer (J ⟨q,7,I⟩),.pointer (J ⟨q,0,I⟩),.pointer (J ⟨p,0,I⟩),.pointer (J ⟨p,0,I⟩),.pointer (J ⟨p,13,I⟩),O U m.picks,.pointer (J ⟨q,0,I⟩),.pointer (J ⟨q,13,I⟩),.pointer (J ⟨q,0,I⟩),.pointer (J ⟨q,0,I⟩),.pointer (J ⟨q,0,I⟩),.pointer (J ⟨q,8,I⟩),.slice I 0 0,.pointer (J ⟨p,0,I⟩),.pointer (J ⟨p,0,I⟩),.pointer (J ⟨p,8,I⟩),nv,.slice Q m.nu.length H,.pointer (J ⟨q,0,I⟩),.pointer (J ⟨q,8,I⟩),.pointer (J ⟨q,0,I⟩),.pointer (J ⟨q,0,I⟩),.pointer (J ⟨q,0,I⟩),.pointer (J ⟨q,9,I⟩),.slice I 0 0,.pointer (J ⟨p,0,I⟩),.pointer (J ⟨p,0,I⟩),.pointer (J ⟨p,9,I⟩),pv,.slice R m.pub.length K,.pointer (J ⟨q,0,I⟩),.pointer (J ⟨q,9,I⟩),undef,undef,undef,undef,undef,undef,undef,undef,undef,undef,undef,undef,undef,undef,undef,undef,undef,undef,undef,undef,undef,undef,undef,undef,undef],defers:=[]} (Y2.setCell ⟨q,9,I⟩ (.slice R m.pub.length K)):=by
   intro R K Y2 a9 ad ah
   refine aK2 _ _ ?_
   clear aK2 g f b h63 hby r9 m9
   have M:=ze ((ud a9).putPub (ud ad))
   have x:=ze ((ud ah).setCell (p:=⟨q,9,I⟩) (ud HQ) (.slice R m.pub.length K))
   generalize(Y2.setCell ⟨q,9,I⟩ (.slice R m.pub.length K))=X3 at*
   obtain⟨r7,r8,r9,o,r,t,G⟩:=(ud M).rest
   obtain⟨m7,m8,m9,i,l,E,F⟩:=((ud P).later (ud x)).rest
   have g:=(ud M).lt
   have f:=((ud P).later (ud x)).lt
   have b:=ze (((ud P).later (ud x).drew).grow)
   have h63:m.gone.length<=maxLen:=by simp only[maxLen];omega
   have hby:m.gone.length*24<=140737488355328:=by omega
   clear r7 r8 r9 r t G m7 m8 m9 l E F
   go_wp2_with fail
   rename_i K3 aK3
   have am:∀(Z:Option Addr) (N:Nat) (Y3:Y),Hid (zJ w.1.size Y3 q {(⟨m.c,0,[],[],[],[],m.epoch,0⟩:RM)with now:=m.now,picks:=m.picks,nu:=m.nu,pub:=m.pub} tq (.slice Q m.nu.length H) (.slice R m.pub.length K) (.slice I 0 0) (.slice I 0 0))->Hid (Y3.ownsRow w.1.size 232 3 (.slice Z m.gone.length N) m.gone.length (m.gone.flatMap sgV))->Hid (Below w.1.size w Y3)->Hid (∀k,(Value.slice R m.pub.length K).ownBlock=J k->¬(Value.slice Z m.gone.length N).ownBlock=J k)->K3 {tmps:=#[.pointer (J ⟨p,0,I⟩),undef,.pointer I,.pointer (J ⟨q,0,I⟩),.pointer (J ⟨p,0,I⟩),.pointer (J ⟨p,0,I⟩),.pointer (J ⟨p,0,I⟩),.agg #[O U m.c.s,O U m.c.le,O U m.c.la,O U m.c.wi,O U m.c.ke,O U m.c.qu,.slice a m.c.n cap],.pointer (J ⟨p,0,I⟩),.pointer (J ⟨p,0,I⟩),.pointer (J ⟨p,12,I⟩),O U m.epoch,.pointer (J ⟨q,0,I⟩),.pointer (J ⟨q,0,I⟩),.pointer (J ⟨p,0,I⟩),.pointer (J ⟨p,0,I⟩),.pointer (J ⟨p,7,I⟩),O U m.now,.pointer (J ⟨q,0,I⟩),.pointer (J ⟨q,7,I⟩),.pointer (J ⟨q,0,I⟩),.pointer (J ⟨p,0,I⟩),.pointer (J ⟨p,0,I⟩),.pointer (J ⟨p,13,I⟩),O U m.picks,.pointer (J ⟨q,0,I⟩),.pointer (J ⟨q,13,I⟩),.pointer (J ⟨q,0,I⟩),.pointer (J ⟨q,0,I⟩),.pointer (J ⟨q,0,I⟩),.pointer (J ⟨q,8,I⟩),.slice I 0 0,.pointer (J ⟨p,0,I⟩),.pointer (J ⟨p,0,I⟩),.pointer (J ⟨p,8,I⟩),nv,.slice Q m.nu.length H,.pointer (J ⟨q,0,I⟩),.pointer (J ⟨q,8,I⟩),.pointer (J ⟨q,0,I⟩),.pointer (J ⟨q,0,I⟩),.pointer (J ⟨q,0,I⟩),.pointer (J ⟨q,9,I⟩),.slice I 0 0,.pointer (J ⟨p,0,I⟩),.pointer (J ⟨p,0,I⟩),.pointer (J ⟨p,9,I⟩),pv,.slice R m.pub.length K,.pointer (J ⟨q,0,I⟩),.pointer (J ⟨q,9,I⟩),.pointer (J ⟨q,0,I⟩),.pointer (J ⟨q,0,I⟩),.pointer (J ⟨q,0,I⟩),.pointer (J ⟨q,10,I⟩),.slice I 0 0,.pointer (J ⟨p,0,I⟩),.pointer (J ⟨p,0,I⟩),.pointer (J ⟨p,10,I⟩),gv,.slice Z m.gone.length N,.pointer (J ⟨q,0,I⟩),.pointer (J ⟨q,10,I⟩),undef,undef,undef,undef,undef,undef,undef,undef,undef,undef,undef,undef,undef],defers:=[]} (Y3.setCell ⟨q,10,I⟩ (.slice Z m.gone.length N)):=by
    intro Z N Y3 aa ae ai T
    refine aK3 _ _ ?_
    clear aK3 g f b h63 hby o i
    have X:=ze ((ud aa).putGone (ud ae))
    have y:=ze ((ud ai).setCell (p:=⟨q,10,I⟩) (ud HQ) (.slice Z m.gone.length N))
    generalize(Y3.setCell ⟨q,10,I⟩ (.slice Z m.gone.length N))=X4 at*
    obtain⟨r7,r8,r9,o,r,t,G⟩:=(ud X).rest
    obtain⟨m7,m8,m9,i,l,E,F⟩:=((ud P).later (ud y)).rest
    have g:=(ud X).lt
    have f:=((ud P).later (ud y)).lt
    have b:=ze (((ud P).later (ud y).drew).krow)
    have h63:m.tg.length<=maxLen:=by simp only[maxLen];omega
    have hby:m.tg.length*88<=140737488355328:=by omega
    clear r7 r8 r9 o t G m7 m8 m9 i E F
    go_wp2_with fail
    rename_i K4 aK4
    have an:∀(a4:Option Addr) (c4:Nat) (Y4:Y),Hid (zJ w.1.size Y4 q {(⟨m.c,0,[],[],[],[],m.epoch,0⟩:RM)with now:=m.now,picks:=m.picks,nu:=m.nu,pub:=m.pub,gone:=m.gone} tq (.slice Q m.nu.length H) (.slice R m.pub.length K) (.slice Z m.gone.length N) (.slice I 0 0))->Hid (Y4.ownsRow w.1.size 239 11 (.slice a4 m.tg.length c4) m.tg.length (m.tg.flatMap tkV))->Hid (Below w.1.size w Y4)->K4 {tmps:=#[.pointer (J ⟨p,0,I⟩),undef,.pointer I,.pointer (J ⟨q,0,I⟩),.pointer (J ⟨p,0,I⟩),.pointer (J ⟨p,0,I⟩),.pointer (J ⟨p,0,I⟩),.agg #[O U m.c.s,O U m.c.le,O U m.c.la,O U m.c.wi,O U m.c.ke,O U m.c.qu,.slice a m.c.n cap],.pointer (J ⟨p,0,I⟩),.pointer (J ⟨p,0,I⟩),.pointer (J ⟨p,12,I⟩),O U m.epoch,.pointer (J ⟨q,0,I⟩),.pointer (J ⟨q,0,I⟩),.pointer (J ⟨p,0,I⟩),.pointer (J ⟨p,0,I⟩),.pointer (J ⟨p,7,I⟩),O U m.now,.pointer (J ⟨q,0,I⟩),.pointer (J ⟨q,7,I⟩),.pointer (J ⟨q,0,I⟩),.pointer (J ⟨p,0,I⟩),.pointer (J ⟨p,0,I⟩),.pointer (J ⟨p,13,I⟩),O U m.picks,.pointer (J ⟨q,0,I⟩),.pointer (J ⟨q,13,I⟩),.pointer (J ⟨q,0,I⟩),.pointer (J ⟨q,0,I⟩),.pointer (J ⟨q,0,I⟩),.pointer (J ⟨q,8,I⟩),.slice I 0 0,.pointer (J ⟨p,0,I⟩),.pointer (J ⟨p,0,I⟩),.pointer (J ⟨p,8,I⟩),nv,.slice Q m.nu.length H,.pointer (J ⟨q,0,I⟩),.pointer (J ⟨q,8,I⟩),.pointer (J ⟨q,0,I⟩),.pointer (J ⟨q,0,I⟩),.pointer (J ⟨q,0,I⟩),.pointer (J ⟨q,9,I⟩),.slice I 0 0,.pointer (J ⟨p,0,I⟩),.pointer (J ⟨p,0,I⟩),.pointer (J ⟨p,9,I⟩),pv,.slice R m.pub.length K,.pointer (J ⟨q,0,I⟩),.pointer (J ⟨q,9,I⟩),.pointer (J ⟨q,0,I⟩),.pointer (J ⟨q,0,I⟩),.pointer (J ⟨q,0,I⟩),.pointer (J ⟨q,10,I⟩),.slice I 0 0,.pointer (J ⟨p,0,I⟩),.pointer (J ⟨p,0,I⟩),.pointer (J ⟨p,10,I⟩),gv,.slice Z m.gone.length N,.pointer (J ⟨q,0,I⟩),.pointer (J ⟨q,10,I⟩),.pointer (J ⟨q,0,I⟩),.pointer (J ⟨q,0,I⟩),.pointer (J ⟨q,0,I⟩),.pointer (J ⟨q,11,I⟩),.slice I 0 0,.pointer (J ⟨p,0,I⟩),.pointer (J ⟨p,0,I⟩),.pointer (J ⟨p,11,I⟩),kv,.slice a4 m.tg.length c4,.pointer (J ⟨q,0,I⟩),.pointer (J ⟨q,11,I⟩),undef],defers:=[]} (Y4.setCell ⟨q,11,I⟩ (.slice a4 m.tg.length c4)):=by
     intro a4 c4 Y4 ab af aj
     refine aK4 _ _ ?_
     clear aK4 g f b h63 hby r l
     have ap:=ze ((ud ab).setTasks (ud af))
     have aq:=ze ((ud aj).setCell (p:=⟨q,11,I⟩) (ud HQ) (.slice a4 m.tg.length c4))
     generalize(Y4.setCell ⟨q,11,I⟩ (.slice a4 m.tg.length c4))=X5 at*
     go_wp2_with fail
     go_ret
     exact⟨q,rfl,⟨_,_,_,_,_,ud ap,ud aq,ud T⟩⟩
    clear aK4
    go_region_law (refine yg rfl (.tmp 67) (.tmp 71) 188 rfl 239 _ 11 88 underlying188 Tryz.infoTask rfl (by decide) B kv m.tg.length (m.tg.flatMap tkV) (by simp[Act.eval]) (by simp[Act.eval]) (ud b) (vZ XS _) h63 hby ?_;intro a4 c4 Y4 av D;have a7:Below X4.1.size X4 Y4:=⟨D.os,D.tape,D.output,D.size,D.block⟩;clear D;have ab:=ze ((ud X).later a7);have af:=ze (jZ (base':=w.1.size) av (ud y).size);have aj:=ze ((ud y).trans (a7.mono (ud y).size));clear av;have rf:∀j,Y4.frozen? ⟨q,j,I⟩=false:=(fun j=>zD (ud ab).head j);have yq:=(a7.cell (p:=⟨q,11,I⟩) g).trans r;have yp:=(a7.cell (p:=⟨p,11,I⟩) f).trans l;clear a7)
    all_goals exact an _ _ _ ab af aj
   clear aK3
   go_region_law (refine yg rfl (.tmp 55) (.tmp 59) 187 rfl 232 _ 3 24 underlying187 Tryz.infoSegment rfl (by decide) B gv m.gone.length (m.gone.flatMap sgV) (by simp[Act.eval]) (by simp[Act.eval]) (ud b) (vZ VM _) h63 hby ?_;intro Z N Y3 ao C;have a6:Below X3.1.size X3 Y3:=⟨C.os,C.tape,C.output,C.size,C.block⟩;clear C;have aa:=ze ((ud M).later a6);have ae:=ze (jZ (base':=w.1.size) ao (ud x).size);have ai:=ze ((ud x).trans (a6.mono (ud x).size));have T:Hid (∀k,(Value.slice R m.pub.length K).ownBlock=J k->¬(Value.slice Z m.gone.length N).ownBlock=J k):=(fun k e1 e2=>by have z1:=((ud M).prow.lt k e1).2;have z2:X3.1.size<=k:=(ao.lt k e2).1;omega);clear ao;have rf:∀j,Y3.frozen? ⟨q,j,I⟩=false:=(fun j=>zD (ud aa).head j);have yq:=(a6.cell (p:=⟨q,10,I⟩) g).trans o;have yp:=(a6.cell (p:=⟨p,10,I⟩) f).trans i;clear a6)
   all_goals exact am _ _ _ aa ae ai T
  clear aK2
  go_region_law (refine yg rfl (.tmp 43) (.tmp 47) 187 rfl 232 _ 3 24 underlying187 Tryz.infoSegment rfl (by decide) B pv m.pub.length (m.pub.flatMap sgV) (by simp[Act.eval]) (by simp[Act.eval]) (ud b) (vZ VM _) h63 hby ?_;intro R K Y2 au A;have a5:Below X2.1.size X2 Y2:=⟨A.os,A.tape,A.output,A.size,A.block⟩;clear A;have a9:=ze ((ud W).later a5);have ad:=ze (jZ (base':=w.1.size) au (ud v).size);have ah:=ze ((ud v).trans (a5.mono (ud v).size));clear au;have rf:∀j,Y2.frozen? ⟨q,j,I⟩=false:=(fun j=>zD (ud a9).head j);have yq:=(a5.cell (p:=⟨q,9,I⟩) g).trans r9;have yp:=(a5.cell (p:=⟨p,9,I⟩) f).trans m9;clear a5)
  all_goals exact al _ _ _ a9 ad ah
 clear aK1
 go_region_law (refine yg rfl (.tmp 31) (.tmp 35) 186 rfl 269 _ 3 24 underlying186 Tryz.infoNumber rfl (by decide) B nv m.nu.length (m.nu.flatMap nmV) (by simp[Act.eval]) (by simp[Act.eval]) (ud b) (vZ zfA _) h63 hby ?_;intro Q H Y1 ar z;have a0:Below X1.1.size X1 Y1:=⟨z.os,z.tape,z.output,z.size,z.block⟩;clear z;have a8:=ze ((ud V).later a0);have ac:=ze (jZ (base':=w.1.size) ar (ud u).size);have ag:=ze ((ud u).trans (a0.mono (ud u).size));clear ar;have rf:∀j,Y1.frozen? ⟨q,j,I⟩=false:=(fun j=>zD (ud a8).head j);have yq:=(a0.cell (p:=⟨q,8,I⟩) g).trans r8;have yp:=(a0.cell (p:=⟨p,8,I⟩) f).trans m8;clear a0)
 all_goals exact ak _ _ _ a8 ac ag
end Go.Proofs.YtpbimdkclnekeaaGreat
