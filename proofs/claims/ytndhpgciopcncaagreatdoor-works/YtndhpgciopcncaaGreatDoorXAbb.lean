import Derived.WalkKit
import Derived.BigQuiet
import Derived.Deep.AppendLies
import Derived.Laws.CopyOwn
open Option renaming some → J
open Go renaming Value → E
open Go renaming World → Y
open Go.Value (int)
open Go.IntKind (i64)
open Go.IntKind (i32)
namespace Go.Proofs.YtndhpgciopcncaaGreatDoor
open Go.RowKit
variable {args:Array E} {Q:Exit->Act->Y->Prop} {xs:List E} {B base k n size:Nat} {f g:Nat->Prop} {o:Obj} {P:Program} {p:Prop} {v:E} {W a w w':Y}
abbrev I(x:Int):E:=int i64 x
abbrev U(g i:Nat):Addr:=⟨g,i,none⟩
abbrev O(g:Nat):E:=.pointer (J ⟨g,0,none⟩)
abbrev Rz(w:Y)(v:E):Ending->Y->Prop:=fun e w'=>e=.returned v/\Below w.1.size w w'
abbrev i_(x:Int):E:=int i32 x
abbrev B_(w w':Y):Prop:=Below w.1.size w w'
abbrev Cz(w:Y)(g i:Nat)(v:E):Prop:=w.cell? ⟨g,i,none⟩=J v
theorem sZz{α:Type _}:(∀l:List α,l.toArray.size=l.length)/\(∀(a:α) (l:List α),(a::l).length=l.length+1)/\(([]:List α).length=0)/\(∀(n:Nat) (a:α),Array.replicate (n+1) a=(Array.replicate n a).push a)/\(∀a:α,Array.replicate 0 a=#[])/\(∀(l:List α) (a:α),l.toArray.push a=(l++[a]).toArray)/\(∀l m:List α,l.toArray++m.toArray=(l++m).toArray)/\(∀l:List α,[]++l=l)/\(∀(a:α) (l m:List α),(a::l)++m=a::(l++m)):=⟨fun _=>List.size_toArray,fun _ _=>List.length_cons,List.length_nil,fun _ _=>Array.replicate_succ,fun _=>Array.replicate_zero,fun _ _=>List.push_toArray ..,fun _ _=>List.append_toArray ..,fun _=>List.nil_append _,fun _ _ _=>List.cons_append⟩
abbrev ye:Obj:=.cells #[I 0,I 0,I 0,I 0,I 0,I 0,I 0,I 0] 37
abbrev kq:Obj:=.cells #[I 0,I 0,int i32 0,int i32 0] 115
abbrev Zj:Obj:=.cells #[I 0,I 0,I 0,I 0,I 0,I 0,I 0,I 0,I 0,I 0,I 0] 51
abbrev zcI:Obj:=.cells #[I 0,I 0,I 0,I 0] 162
abbrev zed:Obj:=.cells #[.slice none 0 0] 105
abbrev zhk:Obj:=.cells #[.bool false] 4
abbrev zoY:Obj:=.cells #[.slice none 0 0,.slice none 0 0] 77
abbrev zkK:Obj:=.cells #[I 0] 3
abbrev zkL:Obj:=.cells #[] 257
abbrev zob9:Obj:=.cells #[I 0,I 0,I 0,I 0,I 0,I 0,int i32 0,int i32 0] 148
abbrev zmG:Obj:=.cells #[.slice none 0 0] 186
def zm(B:Nat)(W:Y):Type:={u:Y//Below B W u}
theorem zm.some(B:Nat)(W:Y):Nonempty (zm B W):=⟨⟨W,Below.refl _ _⟩⟩
theorem zm.cell(u:zm B W)(b o:Nat)(h:b<B):u.1.cell? (U b o)=W.cell? (U b o):=u.2.cell (p:=(U b o)) h
theorem Calls.later{f:FuncId}(b:B<=W.1.size){u:zm B W}(h:Calls P f args u.1 fun e w'=>e=.returned v/\Below u.1.1.size u.1 w'):Calls P f args u.1 fun e a=>e=.returned v/\∃x:zm B W,a=x.1:=
 h.mono fun _ w' ⟨d,c⟩=>⟨d,⟨w',u.2.trans (c.mono (Nat.le_trans b u.2.size))⟩,rfl⟩
theorem Calls.later_same{f:FuncId}{u:zm B W}(h:Calls P f args u.1 fun e w'=>e=.returned v/\w'=u.1):Calls P f args u.1 fun e a=>e=.returned v/\∃x:zm B W,a=x.1:=
 h.mono fun _ _ ⟨c,b⟩=>⟨c,u,b⟩
theorem zh{id:Nat}{a:Act}{l:List Oper}(B:Nat)(b:P.follows .mixedOrders=true)(c:Region.lexB .any l.toArray=true)(h:wpQuiet P l.toArray (fun w'=>∃u:zm B w,w'=u.1) (fun a'=>∀u:zm B w,Q .normal a' u.1) l a):(Code.region id l.toArray true).wp P Q a w:=
 wp_region_quiet (C:=fun w'=>∃u:zm B w,w'=u.1) b c ⟨⟨w.drew,(Below.refl _ _).drew⟩,rfl⟩ (by
  have:(fun a'=>∀w',(∃u:zm B w,w'=u.1)->Q .normal a' w')=(fun a'=>∀u:zm B w,Q .normal a' u.1):=by
   funext a';exact propext ⟨fun h u=>h _ ⟨u,rfl⟩,fun h _ ⟨u,e⟩=>e▸h u⟩
  rw[this];simpa using h)
theorem ze(h:p):Hid p:=h
theorem ud(h:Hid p):p:=h
structure zj(f:Nat->Prop)(w w':Y):Prop where
 os:w'.os=w.os
 tape:w'.tape=w.tape
 output:w'.output=w.output
 size:w.1.size<=w'.1.size
 block:∀k,k<w.1.size->¬f k->w'.1[k]?=w.1[k]?
theorem zj.refl(f:Nat->Prop)(w:Y):zj f w w:=⟨rfl,rfl,rfl,Nat.le_refl _,fun _ _ _=>rfl⟩
theorem zj.trans{b c:Y}(h:zj f a b)(k:zj g b c)(j:∀i,i<a.1.size->g i->f i):zj f a c:=
 ⟨k.os.trans h.os,k.tape.trans h.tape,k.output.trans h.output,Nat.le_trans h.size k.size,
  fun i d e=>(k.block i (Nat.lt_of_lt_of_le d h.size) (fun l=>e (j i d l))).trans (h.block i d e)⟩
theorem zj.mono(h:zj f w w')(a:∀i,i<w.1.size->f i->g i):zj g w w':=
 ⟨h.os,h.tape,h.output,h.size,fun k b hn=>h.block k b (fun c=>hn (a k b c))⟩
theorem zj.drew(h:zj f a w):zj f a w.drew:=⟨h.os,h.tape,h.output,h.size,h.block⟩
theorem zj.of_below(h:Below w.1.size w w'):zj f w w':=⟨h.os,h.tape,h.output,h.size,fun k a _=>h.block k a⟩
theorem zj.alloc(h:zj f a w)(o:Obj):zj f a (w.alloc o):=
 h.trans (g:=f) (zj.of_below ((Below.refl _ _).alloc (Nat.le_refl _) o)) (fun _ _ h=>h)
theorem zj.setCell(h:zj f a w){p:Addr}(d:p.block<a.1.size->f p.block)(u:E):zj f a (w.setCell p u):=
 h.trans (g:=fun k=>k=p.block) ⟨rfl,rfl,rfl,by simp[World.setCell],fun k _ hn=>Below.heap_setCell _ _ _ _ hn⟩ (fun i c b=>by subst b;exact d c)
theorem zj.grown{row:Option Nat}(h:zj f a w)(b:w.grownBy w' row)(l:∀k,row=J k->k<a.1.size->f k):zj f a w':=
 h.trans (g:=fun k=>row=J k) ⟨b.os,b.tape,b.output,b.size,fun k j hn=>b.block k j (fun e=>hn e.symm)⟩ (fun i d c=>l i c d)
theorem zj.below(h:zj f w w')(a:B<=w.1.size)(b:∀k,f k->B<=k):Below B w w':=
 ⟨h.os,h.tape,h.output,h.size,fun k d=>h.block k (Nat.lt_of_lt_of_le d a) (fun c=>by have:=b k c;omega)⟩
theorem zj.heap(h:zj f w w')(a:w.1[k]?=J o)(hn:¬f k):w'.1[k]?=J o:=
 (h.block k (Array.getElem?_eq_some_iff.1 a).1 hn).trans a
theorem zd(a:w.1[k]?=J o):k<w.1.size:=(Array.getElem?_eq_some_iff.1 a).1
theorem zi{e:TypeId}(h:w.ownsRow base e size v n xs)(i:zj f w w')(hn:∀k,v.ownBlock=J k->¬f k):w'.ownsRow base e size v n xs:=by
 refine⟨h.1,?_⟩;rcases h.2 with b|⟨g,cap,a,rfl,c,d,r⟩
 ·exact .inl b
 ·exact .inr ⟨g,cap,a,rfl,c,i.heap d (hn g rfl),r⟩
theorem zG{e:TypeId}(h:w.ownsRow base e size v n xs)(b:v.ownBlock=J k):∃a,w.1[k]?=J (.cells a e (0,0)):=by
 rcases h.2 with⟨rfl,_⟩|⟨g,cap,a,rfl,_,c,_⟩
 ·cases b
 ·simp[Value.ownBlock]at b;subst b;exact⟨a,c⟩
section
variable {P:Program} (w:Y)
theorem vT(t H:TypeId)(base:Nat)(e:TypeId)(i:TypeInfo)(z:E)(size f:Nat)(N:P.underlying t=J (.slice e))(I:P.info? e=J i)(V:i.zero=J z)(l:i.size=size)(hby:i.bytes=f)(Q:z.cells.size=size)(M:0<size)(v:E)(n:Nat)(xs:List E)(b:w.ownsRow base e size v n xs)(ad:Addr)(m c:Nat)(a:List E)(F:a.length=m*size)(hnews:∀j u,a[j]?=J u->w.cell? (ad.add j)=J u)(R:∀u∈a,u.oneCell'=true)(Z:0<m)(h63:n+m<=maxLen)(hbytes:(n+m)*f<=140737488355328)(q:base<=w.1.size):
  ∃g cap w',(Builtin.append_ #[t,t] H #[v,.slice (J ad) m c]).run P w=.ok (.slice (J (U g 0)) (n+m) cap) w'/\
   w'.ownsRow base e size (.slice (J (U g 0)) (n+m) cap) (n+m) (xs++a)/\w'.ownsRow base e size v n xs/\w.grownBy w' v.ownBlock/\(v.ownBlock=J g\/g=w.1.size)/\g<w'.1.size:=by
 obtain⟨v',w',L,S,W,_,s⟩:=run_append_own_at (P:=P) w base t H e i z size f N I V l hby Q M v n xs b ad m c a F hnews R h63 hbytes q;obtain⟨g,cap,rfl,_,K⟩:=S.form (by omega);refine⟨g,cap,w',L,S,?_,W,?_,K⟩
 ·refine⟨b.1,?_⟩;rcases b.2 with hn|⟨p,d,o,rfl,T,D,B,x,y,C⟩
  ·exact .inl hn
  ·right;subst l;subst hby;by_cases k:n+m<=d
   ·have A:n*i.size+a.length<=o.size:=(by rw[F,y,<-Nat.add_mul];exact Nat.mul_le_mul_right _ k);have h:=run_append_room (P:=P) w t H e i N I p n d o D ad m c a F hnews R k A;rw[L]at h;injection h with _ O;subst O;refine⟨p,d,_,rfl,T,setRow_heap w p o _ e _ D,B,x,?_,?_⟩
    ·simp only[List.size_toArray,List.length_append,List.length_take,List.length_drop,Array.length_toList];omega
    ·have X:xs.length=n*i.size:=b.1;simp only[C];rw[List.append_assoc,<-X];exact List.take_left
   ·have G:n+m<=9223372036854775807:=(by simp only[maxLen]at h63;omega);have r:∀j u,xs[j]?=J u->w.cell? (((U p 0):Addr).add j)=J u:=b.cells (g:=p) rfl;have h:=run_append_grow (P:=P) w t H e i z N I V (U p 0) n d xs b.1 r ad m c a F hnews (by omega) (by omega) (growslice_fits (by omega) hbytes);rw[L]at h;injection h with _ O;subst O;exact⟨p,d,o,rfl,T,(Below.heap_alloc w.drew _ p (zd D)).trans D,B,x,y,C⟩
 ·rcases s with s|s
  ·exact .inl (s.symm.trans rfl)
  ·simp[Value.ownBlock]at s;exact .inr s
theorem zO{w:Y}{ops:Array Oper}{rest:List Oper}{o:Oper}{a:Act}(q:o.guard=none)(s x:Operand)(t:TypeId)(N:o.op=.call {callee:=.builtin .append,args:=#[s,x],argTypes:=#[t,t]})(base:Nat)(e:TypeId)(z:E)(size d:Nat)(S:P.underlying t=J (.slice e))(f:(P.info? e).map (fun i=>(i.zero,i.size,i.bytes))=J (J z,size,d))(A:z.cells.size=size)(y:0<size)(v:E)(n:Nat)(xs:List E)(R:a.eval s=v)(p:w.ownsRow base e size v n xs)(ad:Addr)(m c:Nat)(b:List E)(T:a.eval x=.slice (J ad) m c)(L:b.length=m*size)(hnews:∀j u,b[j]?=J u->w.cell? (ad.add j)=J u)(B:∀u∈b,u.oneCell'=true)(M:0<m)(h63:n+m<=maxLen)(hbytes:(n+m)*d<=140737488355328)(k:base<=w.1.size)(h:∀g cap w',w'.ownsRow base e size (.slice (J (U g 0)) (n+m) cap) (n+m) (xs++b)->w'.ownsRow base e size v n xs->w.grownBy w' v.ownBlock->(v.ownBlock=J g\/g=w.1.size)->g<w'.1.size->wpList P ops Q rest (a.put o.dst (.slice (J (U g 0)) (n+m) cap)) w'):wpList P ops Q (o::rest) a w:=by
 cases r:P.info? e with
 |none=>simp[r]at f
 |some i=>
  simp only[r,Option.map_some,Option.some.injEq,Prod.mk.injEq]at f;obtain⟨V,l,hby⟩:=f;refine wpList_plain q fun K I=>?_;obtain⟨g,cap,w',O,C,D,F,G,H⟩:=vT (P:=P) w t o.type base e i z size d S r V l hby A y v n xs p ad m c b L hnews B M h63 hbytes k;unfold Oper.wp;simp[execOp,N,resolve,invoke,builtin,R,T,O,Result.andThen];exact I _ _ (h g cap w' C D F G H)
end
