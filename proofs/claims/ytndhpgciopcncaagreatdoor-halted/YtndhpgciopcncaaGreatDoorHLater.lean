import Derived.Test.YtndhpgciopcncaaGreatDoorHAbb
import Derived.WalkKit
import Derived.Below
import Derived.Deep.QuietTactic
import Derived.BigQuiet
import Derived.Maps.AppendAt
import Derived.Deep.AppendLies
import Derived.Laws.CopyOwn
open Option renaming some → J
namespace Go.Proofs.YtndhpgciopcncaaGreatDoor
open Go.RowKit
variable {args:Array Value} {Q:Exit->Act->World->Prop} {xs:List Value} {B base k n size:Nat} {f g:Nat->Prop} {o:Obj} {P:Program} {p:Prop} {v:Value} {W a w w':World}
def xg(B:Nat)(W:World):Type:={u:World//Below B W u}
theorem xg.some(B:Nat)(W:World):Nonempty (xg B W):=⟨⟨W,Below.refl _ _⟩⟩
theorem xg.cell(u:xg B W)(b o:Nat)(h:b<B):u.1.cell? (U b o)=W.cell? (U b o):=u.2.cell (p:=(U b o)) h
theorem Calls.later{f:FuncId}(b:B<=W.1.size){u:xg B W}(h:Calls P f args u.1 fun e w'=>e=.returned v/\Below u.1.1.size u.1 w'):Calls P f args u.1 fun e a=>e=.returned v/\∃x:xg B W,a=x.1:=
 h.mono fun _ w' ⟨d,c⟩=>⟨d,⟨w',u.2.trans (c.mono (Nat.le_trans b u.2.size))⟩,rfl⟩
theorem Calls.later_same{f:FuncId}{u:xg B W}(h:Calls P f args u.1 fun e w'=>e=.returned v/\w'=u.1):Calls P f args u.1 fun e a=>e=.returned v/\∃x:xg B W,a=x.1:=
 h.mono fun _ _ ⟨c,b⟩=>⟨c,u,b⟩
theorem zy{id:Nat}{a:Act}{l:List Oper}(B:Nat)(c:P.follows .mixedOrders=true)(d:Region.lexB .any l.toArray=true)(h:wpQuiet P l.toArray (fun w'=>∃u:xg B w,w'=u.1) (fun b=>∀u:xg B w,Q .normal b u.1) l a):(Code.region id l.toArray true).wp P Q a w:=
 wp_region_quiet (C:=fun w'=>∃u:xg B w,w'=u.1) c d ⟨⟨w.drew,(Below.refl _ _).drew⟩,rfl⟩ (by
  have:(fun b=>∀w',(∃u:xg B w,w'=u.1)->Q .normal b w')=(fun b=>∀u:xg B w,Q .normal b u.1):=by
   funext b;exact propext ⟨fun h u=>h _ ⟨u,rfl⟩,fun h _ ⟨u,e⟩=>e▸h u⟩
  rw[this];simpa using h)
theorem ze(h:p):Hid p:=h
theorem ud(h:Hid p):p:=h
structure zi(f:Nat->Prop)(w w':World):Prop where
 os:w'.os=w.os
 tape:w'.tape=w.tape
 output:w'.output=w.output
 size:w.1.size<=w'.1.size
 block:∀k,k<w.1.size->¬f k->w'.1[k]?=w.1[k]?
theorem zi.refl(f:Nat->Prop)(w:World):zi f w w:=⟨rfl,rfl,rfl,Nat.le_refl _,fun _ _ _=>rfl⟩
theorem zi.trans{b c:World}(h:zi f a b)(k:zi g b c)(j:∀i,i<a.1.size->g i->f i):zi f a c:=
 ⟨k.os.trans h.os,k.tape.trans h.tape,k.output.trans h.output,Nat.le_trans h.size k.size,
  fun i d e=>(k.block i (Nat.lt_of_lt_of_le d h.size) (fun l=>e (j i d l))).trans (h.block i d e)⟩
theorem zi.mono(h:zi f w w')(a:∀i,i<w.1.size->f i->g i):zi g w w':=
 ⟨h.os,h.tape,h.output,h.size,fun k b hn=>h.block k b (fun c=>hn (a k b c))⟩
theorem zi.drew(h:zi f a w):zi f a w.drew:=⟨h.os,h.tape,h.output,h.size,h.block⟩
theorem zi.of_below(h:Below w.1.size w w'):zi f w w':=⟨h.os,h.tape,h.output,h.size,fun k a _=>h.block k a⟩
theorem zi.alloc(h:zi f a w)(o:Obj):zi f a (w.alloc o):=
 h.trans (g:=f) (zi.of_below ((Below.refl _ _).alloc (Nat.le_refl _) o)) (fun _ _ h=>h)
theorem zi.setCell(h:zi f a w){p:Addr}(d:p.block<a.1.size->f p.block)(u:Value):zi f a (w.setCell p u):=
 h.trans (g:=fun k=>k=p.block) ⟨rfl,rfl,rfl,by simp[World.setCell],fun k _ hn=>Below.heap_setCell _ _ _ _ hn⟩ (fun i c b=>by subst b;exact d c)
theorem zi.grown{row:Option Nat}(h:zi f a w)(b:w.grownBy w' row)(l:∀k,row=J k->k<a.1.size->f k):zi f a w':=
 h.trans (g:=fun k=>row=J k) ⟨b.os,b.tape,b.output,b.size,fun k j hn=>b.block k j (fun e=>hn e.symm)⟩ (fun i d c=>l i c d)
theorem zi.below(h:zi f w w')(a:B<=w.1.size)(b:∀k,f k->B<=k):Below B w w':=
 ⟨h.os,h.tape,h.output,h.size,fun k d=>h.block k (Nat.lt_of_lt_of_le d a) (fun c=>by have:=b k c;omega)⟩
theorem zi.heap(h:zi f w w')(a:w.1[k]?=J o)(hn:¬f k):w'.1[k]?=J o:=
 (h.block k (Array.getElem?_eq_some_iff.1 a).1 hn).trans a
theorem zd(a:w.1[k]?=J o):k<w.1.size:=(Array.getElem?_eq_some_iff.1 a).1
theorem zh{e:TypeId}(h:w.ownsRow base e size v n xs)(i:zi f w w')(hn:∀k,v.ownBlock=J k->¬f k):w'.ownsRow base e size v n xs:=by
 refine⟨h.1,?_⟩;rcases h.2 with b|⟨g,cap,a,rfl,c,d,r⟩
 ·exact .inl b
 ·exact .inr ⟨g,cap,a,rfl,c,i.heap d (hn g rfl),r⟩
theorem zH{e:TypeId}(h:w.ownsRow base e size v n xs)(b:v.ownBlock=J k):∃a,w.1[k]?=J (.cells a e (0,0)):=by
 rcases h.2 with⟨rfl,_⟩|⟨g,cap,a,rfl,_,c,_⟩
 ·cases b
 ·simp[Value.ownBlock]at b;subst b;exact⟨a,c⟩
section
variable {P:Program} (w:World)
theorem vH(t F:TypeId)(base:Nat)(e:TypeId)(i:TypeInfo)(z:Value)(size f:Nat)(L:P.underlying t=J (.slice e))(G:P.info? e=J i)(S:i.zero=J z)(l:i.size=size)(hby:i.bytes=f)(N:z.cells.size=size)(K:0<size)(v:Value)(n:Nat)(xs:List Value)(b:w.ownsRow base e size v n xs)(ad:Addr)(m c:Nat)(a:List Value)(D:a.length=m*size)(hnews:∀j u,a[j]?=J u->w.cell? (ad.add j)=J u)(O:∀u∈a,u.oneCell'=true)(W:0<m)(h63:n+m<=maxLen)(hbytes:(n+m)*f<=140737488355328)(hbase:base<=w.1.size):
  ∃g cap w',(Builtin.append_ #[t,t] F #[v,.slice (J ad) m c]).run P w=.ok (.slice (J (U g 0)) (n+m) cap) w'/\
   w'.ownsRow base e size (.slice (J (U g 0)) (n+m) cap) (n+m) (xs++a)/\w'.ownsRow base e size v n xs/\w.grownBy w' v.ownBlock/\(v.ownBlock=J g\/g=w.1.size)/\g<w'.1.size:=by
 obtain⟨X,w',I,Q,T,_,r⟩:=run_append_own_at (P:=P) w base t F e i z size f L G S l hby N K v n xs b ad m c a D hnews O h63 hbytes hbase;obtain⟨g,cap,rfl,_,H⟩:=Q.form (by omega);refine⟨g,cap,w',I,Q,?_,T,?_,H⟩
 ·refine⟨b.1,?_⟩;rcases b.2 with hn|⟨p,d,o,rfl,R,C,A,s,x,B⟩
  ·exact .inl hn
  ·right;subst l;subst hby;by_cases k:n+m<=d
   ·have y:n*i.size+a.length<=o.size:=(by rw[D,x,<-Nat.add_mul];exact Nat.mul_le_mul_right _ k);have h:=run_append_room (P:=P) w t F e i L G p n d o C ad m c a D hnews O k y;rw[I]at h;injection h with _ M;subst M;refine⟨p,d,_,rfl,R,setRow_heap w p o _ e _ C,A,s,?_,?_⟩
    ·simp only[List.size_toArray,List.length_append,List.length_take,List.length_drop,Array.length_toList];omega
    ·have V:xs.length=n*i.size:=b.1;simp only[B];rw[List.append_assoc,<-V];exact List.take_left
   ·have E:n+m<=9223372036854775807:=(by simp only[maxLen]at h63;omega);have q:∀j u,xs[j]?=J u->w.cell? (((U p 0):Addr).add j)=J u:=b.cells (g:=p) rfl;have h:=run_append_grow (P:=P) w t F e i z L G S (U p 0) n d xs b.1 q ad m c a D hnews (by omega) (by omega) (growslice_fits (by omega) hbytes);rw[I]at h;injection h with _ M;subst M;exact⟨p,d,o,rfl,R,(Below.heap_alloc w.drew _ p (zd C)).trans C,A,s,x,B⟩
 ·rcases r with r|r
  ·exact .inl (r.symm.trans rfl)
  ·simp[Value.ownBlock]at r;exact .inr r
theorem xQ{w:World}{ops:Array Oper}{rest:List Oper}{o:Oper}{a:Act}(p:o.guard=none)(s x:Operand)(t:TypeId)(L:o.op=.call {callee:=.builtin .append,args:=#[s,x],argTypes:=#[t,t]})(base:Nat)(e:TypeId)(z:Value)(size d:Nat)(O:P.underlying t=J (.slice e))(f:(P.info? e).map (fun i=>(i.zero,i.size,i.bytes))=J (J z,size,d))(y:z.cells.size=size)(r:0<size)(v:Value)(n:Nat)(xs:List Value)(N:a.eval s=v)(l:w.ownsRow base e size v n xs)(ad:Addr)(m c:Nat)(b:List Value)(R:a.eval x=.slice (J ad) m c)(H:b.length=m*size)(hnews:∀j u,b[j]?=J u->w.cell? (ad.add j)=J u)(A:∀u∈b,u.oneCell'=true)(I:0<m)(h63:n+m<=maxLen)(hbytes:(n+m)*d<=140737488355328)(hbase:base<=w.1.size)(h:∀g cap w',w'.ownsRow base e size (.slice (J (U g 0)) (n+m) cap) (n+m) (xs++b)->w'.ownsRow base e size v n xs->w.grownBy w' v.ownBlock->(v.ownBlock=J g\/g=w.1.size)->g<w'.1.size->wpList P ops Q rest (a.put o.dst (.slice (J (U g 0)) (n+m) cap)) w'):wpList P ops Q (o::rest) a w:=by
 cases q:P.info? e with
 |none=>simp[q]at f
 |some i=>
  simp only[q,Option.map_some,Option.some.injEq,Prod.mk.injEq]at f;obtain⟨S,k,hby⟩:=f;refine wpList_plain p fun K G=>?_;obtain⟨g,cap,w',M,B,C,D,E,F⟩:=vH (P:=P) w t o.type base e i z size d O q S k hby y r v n xs l ad m c b H hnews A I h63 hbytes hbase;unfold Oper.wp;simp[execOp,L,resolve,invoke,builtin,N,R,M,Result.andThen];exact G _ _ (h g cap w' B C D E F)
end
end Go.Proofs.YtndhpgciopcncaaGreatDoor
