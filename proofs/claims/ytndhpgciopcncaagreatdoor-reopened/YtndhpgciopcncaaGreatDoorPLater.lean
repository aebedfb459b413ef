import Derived.Test.YtndhpgciopcncaaGreatDoorPAbb
import Derived.WalkKit
import Derived.Below
import Derived.Deep.QuietTactic
import Derived.BigQuiet
import Derived.Maps.AppendAt
import Derived.Deep.AppendLies
import Derived.Laws.CopyOwn
open Go renaming World → J
open Option renaming some → E
open Go renaming Value → Y
namespace Go.Proofs.YtndhpgciopcncaaGreatDoor
open Go.RowKit
def xc(B:Nat)(W:J):Type:={u:J//Below B W u}
theorem xc.some(B:Nat)(W:J):Nonempty (xc B W):=⟨⟨W,Below.refl _ _⟩⟩
theorem xc.cell{B:Nat}{W:J}(u:xc B W)(b o:Nat)(h:b<B):u.1.cell? (U b o)=W.cell? (U b o):=u.2.cell (p:=(U b o)) h
theorem Calls.later{P:Program}{f:FuncId}{args:Array Y}{B:Nat}{W:J}(b:B<=W.1.size){u:xc B W}{v:Y}
  (h:Calls P f args u.1 fun e w'=>e=.returned v/\Below u.1.1.size u.1 w'):Calls P f args u.1 fun e a=>e=.returned v/\∃x:xc B W,a=x.1:=
 h.mono fun _ w' ⟨d,c⟩=>⟨d,⟨w',u.2.trans (c.mono (Nat.le_trans b u.2.size))⟩,rfl⟩
theorem Calls.later_same{P:Program}{f:FuncId}{args:Array Y}{B:Nat}{W:J}{u:xc B W}{v:Y}
  (h:Calls P f args u.1 fun e w'=>e=.returned v/\w'=u.1):Calls P f args u.1 fun e a=>e=.returned v/\∃x:xc B W,a=x.1:=
 h.mono fun _ _ ⟨c,b⟩=>⟨c,u,b⟩
theorem zx{P:Program}{id:Nat}{Q:Exit->Act->J->Prop}{a:Act}{w:J}{l:List Oper}(B:Nat)(c:P.follows .mixedOrders=true)(d:Region.lexB .any l.toArray=true)
  (h:wpQuiet P l.toArray (fun w'=>∃u:xc B w,w'=u.1) (fun b=>∀u:xc B w,Q .normal b u.1) l a):(Code.region id l.toArray true).wp P Q a w:=
 wp_region_quiet (C:=fun w'=>∃u:xc B w,w'=u.1) c d ⟨⟨w.drew,(Below.refl _ _).drew⟩,rfl⟩ (by
  have:(fun b=>∀w',(∃u:xc B w,w'=u.1)->Q .normal b w')=(fun b=>∀u:xc B w,Q .normal b u.1):=by
   funext b;exact propext ⟨fun h u=>h _ ⟨u,rfl⟩,fun h _ ⟨u,e⟩=>e▸h u⟩
  rw[this];simpa using h)
theorem ze{p:Prop}(h:p):Hid p:=h
theorem ud{p:Prop}(h:Hid p):p:=h
structure zh(f:Nat->Prop)(w w':J):Prop where
 os:w'.os=w.os
 tape:w'.tape=w.tape
 output:w'.output=w.output
 size:w.1.size<=w'.1.size
 block:∀k,k<w.1.size->¬f k->w'.1[k]?=w.1[k]?
theorem zh.refl(f:Nat->Prop)(w:J):zh f w w:=⟨rfl,rfl,rfl,Nat.le_refl _,fun _ _ _=>rfl⟩
theorem zh.trans{f g:Nat->Prop}{a b c:J}(h:zh f a b)(k:zh g b c)(j:∀i,i<a.1.size->g i->f i):zh f a c:=
 ⟨k.os.trans h.os,k.tape.trans h.tape,k.output.trans h.output,Nat.le_trans h.size k.size,
  fun i d e=>(k.block i (Nat.lt_of_lt_of_le d h.size) (fun l=>e (j i d l))).trans (h.block i d e)⟩
theorem zh.mono{f g:Nat->Prop}{w w':J}(h:zh f w w')(a:∀i,i<w.1.size->f i->g i):zh g w w':=
 ⟨h.os,h.tape,h.output,h.size,fun k b hn=>h.block k b (fun c=>hn (a k b c))⟩
theorem zh.drew{f:Nat->Prop}{a w:J}(h:zh f a w):zh f a w.drew:=⟨h.os,h.tape,h.output,h.size,h.block⟩
theorem zh.of_below{f:Nat->Prop}{w w':J}(h:Below w.1.size w w'):zh f w w':=⟨h.os,h.tape,h.output,h.size,fun k a _=>h.block k a⟩
theorem zh.alloc{f:Nat->Prop}{a w:J}(h:zh f a w)(o:Obj):zh f a (w.alloc o):=
 h.trans (g:=f) (zh.of_below ((Below.refl _ _).alloc (Nat.le_refl _) o)) (fun _ _ h=>h)
theorem zh.setCell{f:Nat->Prop}{a w:J}(h:zh f a w){p:Addr}(d:p.block<a.1.size->f p.block)(u:Y):zh f a (w.setCell p u):=
 h.trans (g:=fun k=>k=p.block) ⟨rfl,rfl,rfl,by simp[World.setCell],fun k _ hn=>Below.heap_setCell _ _ _ _ hn⟩ (fun i c b=>by subst b;exact d c)
theorem zh.grown{f:Nat->Prop}{a w w':J}{b:Option Nat}(h:zh f a w)(c:w.grownBy w' b)(m:∀k,b=E k->k<a.1.size->f k):zh f a w':=
 h.trans (g:=fun k=>b=E k) ⟨c.os,c.tape,c.output,c.size,fun k l hn=>c.block k l (fun e=>hn e.symm)⟩ (fun i j d=>m i d j)
theorem zh.below{f:Nat->Prop}{w w':J}{B:Nat}(h:zh f w w')(a:B<=w.1.size)(b:∀k,f k->B<=k):Below B w w':=
 ⟨h.os,h.tape,h.output,h.size,fun k d=>h.block k (Nat.lt_of_lt_of_le d a) (fun c=>by have:=b k c;omega)⟩
theorem zh.heap{f:Nat->Prop}{w w':J}(h:zh f w w'){k:Nat}{o:Obj}(a:w.1[k]?=E o)(hn:¬f k):w'.1[k]?=E o:=
 (h.block k (Array.getElem?_eq_some_iff.1 a).1 hn).trans a
theorem zd{w:J}{k:Nat}{o:Obj}(a:w.1[k]?=E o):k<w.1.size:=(Array.getElem?_eq_some_iff.1 a).1
theorem zi{f:Nat->Prop}{w w':J}{base:Nat}{e:TypeId}{size:Nat}{v:Y}{n:Nat}{xs:List Y}(h:w.ownsRow base e size v n xs)(i:zh f w w')(hn:∀k,v.ownBlock=E k->¬f k):w'.ownsRow base e size v n xs:=by
 refine⟨h.1,?_⟩
 rcases h.2 with b|⟨g,cap,a,rfl,c,d,r⟩
 ·exact .inl b
 ·exact .inr ⟨g,cap,a,rfl,c,i.heap d (hn g rfl),r⟩
theorem zH{w:J}{base:Nat}{e:TypeId}{size:Nat}{v:Y}{n:Nat}{xs:List Y}(h:w.ownsRow base e size v n xs){k:Nat}(b:v.ownBlock=E k):∃a,w.1[k]?=E (.cells a e (0,0)):=by
 rcases h.2 with⟨rfl,_⟩|⟨g,cap,a,rfl,_,c,_⟩
 ·cases b
 ·simp[Value.ownBlock]at b;subst b;exact⟨a,c⟩
section
variable {P:Program} (w:J)
theorem vp(t G:TypeId)(base:Nat)(e:TypeId)(i:TypeInfo)(z:Y)(size f:Nat)(M:P.underlying t=E (.slice e))(H:P.info? e=E i)(T:i.zero=E z)
  (l:i.size=size) (hby:i.bytes=f) (O:z.cells.size=size) (L:0<size)
  (v:Y) (n:Nat) (xs:List Y) (b:w.ownsRow base e size v n xs)
  (ad:Addr) (m c:Nat) (a:List Y) (D:a.length=m*size) (hnews:∀j u,a[j]?=E u->w.cell? (ad.add j)=E u) (Q:∀u∈a,u.oneCell'=true)
  (X:0<m) (h63:n+m<=maxLen) (hbytes:(n+m)*f<=140737488355328) (hbase:base<=w.1.size):
  ∃g cap w',(Builtin.append_ #[t,t] G #[v,.slice (E ad) m c]).run P w=.ok (.slice (E (U g 0)) (n+m) cap) w'/\
   w'.ownsRow base e size (.slice (E (U g 0)) (n+m) cap) (n+m) (xs++a)/\w'.ownsRow base e size v n xs/\w.grownBy w' v.ownBlock/\(v.ownBlock=E g\/g=w.1.size)/\g<w'.1.size:=by
 obtain⟨Z,w',K,R,V,_,r⟩:=run_append_own_at (P:=P) w base t G e i z size f M H T l hby O L v n xs b ad m c a D hnews Q h63 hbytes hbase
 obtain⟨g,cap,rfl,_,I⟩:=R.form (by omega)
 refine⟨g,cap,w',K,R,?_,V,?_,I⟩
 ·refine⟨b.1,?_⟩
  rcases b.2 with hn|⟨p,d,o,rfl,S,C,A,s,x,B⟩
  ·exact .inl hn
  ·right
   subst l
   subst hby
   by_cases k:n+m<=d
   ·have y:n*i.size+a.length<=o.size:=by rw[D,x,<-Nat.add_mul];exact Nat.mul_le_mul_right _ k
    have h:=run_append_room (P:=P) w t G e i M H p n d o C ad m c a D hnews Q k y
    rw[K]at h
    injection h with _ N
    subst N
    refine⟨p,d,_,rfl,S,setRow_heap w p o _ e _ C,A,s,?_,?_⟩
    ·simp only[List.size_toArray,List.length_append,List.length_take,List.length_drop,Array.length_toList]
     omega
    ·have W:xs.length=n*i.size:=b.1
     simp only[B]
     rw[List.append_assoc,<-W]
     exact List.take_left
   ·have F:n+m<=9223372036854775807:=by simp only[maxLen]at h63;omega
    have q:∀j u,xs[j]?=E u->w.cell? (((U p 0):Addr).add j)=E u:=b.cells (g:=p) rfl
    have h:=run_append_grow (P:=P) w t G e i z M H T (U p 0) n d xs b.1 q ad m c a D hnews (by omega) (by omega) (growslice_fits (by omega) hbytes)
    rw[K]at h
    injection h with _ N
    subst N
    exact⟨p,d,o,rfl,S,(Below.heap_alloc w.drew _ p (zd C)).trans C,A,s,x,B⟩
 ·rcases r with r|r
  ·exact .inl (r.symm.trans rfl)
  ·simp[Value.ownBlock]at r;exact .inr r
theorem xM{w:J}{ops:Array Oper}{rest:List Oper}{o:Oper}{a:Act}{Q:Exit->Act->J->Prop}(p:o.guard=none)(s x:Operand)(t:TypeId)
  (M:o.op=.call {callee:=.builtin .append,args:=#[s,x],argTypes:=#[t,t]})
  (base:Nat) (e:TypeId) (z:Y) (size d:Nat) (R:P.underlying t=E (.slice e)) (f:(P.info? e).map (fun i=>(i.zero,i.size,i.bytes))=E (E z,size,d)) (y:z.cells.size=size) (r:0<size)
  (v:Y) (n:Nat) (xs:List Y) (O:a.eval s=v) (l:w.ownsRow base e size v n xs)
  (ad:Addr) (m c:Nat) (b:List Y) (S:a.eval x=.slice (E ad) m c) (I:b.length=m*size) (hnews:∀j u,b[j]?=E u->w.cell? (ad.add j)=E u) (A:∀u∈b,u.oneCell'=true)
  (L:0<m) (h63:n+m<=maxLen) (hbytes:(n+m)*d<=140737488355328) (hbase:base<=w.1.size)
  (h:∀g cap w',w'.ownsRow base e size (.slice (E (U g 0)) (n+m) cap) (n+m) (xs++b)->w'.ownsRow base e size v n xs->w.grownBy w' v.ownBlock->(v.ownBlock=E g\/g=w.1.size)->g<w'.1.size->wpList P ops Q rest (a.put o.dst (.slice (E (U g 0)) (n+m) cap)) w'):wpList P ops Q (o::rest) a w:=by
 cases q:P.info? e with
 |none=>simp[q]at f
 |some i=>
  simp only[q,Option.map_some,Option.some.injEq,Prod.mk.injEq]at f
  obtain⟨T,k,hby⟩:=f
  refine wpList_plain p fun K H=>?_
  obtain⟨g,cap,w',N,B,C,D,F,G⟩:=vp (P:=P) w t o.type base e i z size d R q T k hby y r v n xs l ad m c b I hnews A L h63 hbytes hbase
  unfold Oper.wp
  simp[execOp,M,resolve,invoke,builtin,O,S,N,Result.andThen]
  exact H _ _ (h g cap w' B C D F G)
end
end Go.Proofs.YtndhpgciopcncaaGreatDoor
