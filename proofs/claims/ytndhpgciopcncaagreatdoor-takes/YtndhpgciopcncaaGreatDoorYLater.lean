import Derived.WalkKit
import Derived.Below
import Derived.Deep.QuietTactic
import Derived.BigQuiet
import Derived.Shelf.Strconv.AppendIntPublic10
import Derived.Test.YtndhpgciopcncaaGreatDoorProg
import Derived.Shelf.Strings.LastIndex
import Derived.Shelf.SlLaysF0
import Derived.Shelf.SlGeneric
import Derived.Maps.AppendAt
import Derived.Deep.AppendLies
import Derived.Laws.CopyOwn
open Option renaming some → I
open Go renaming World → J
open Go renaming Value → O
open Go.Proofs.Tryz
namespace Go.Proofs.YtndhpgciopcncaaGreatDoor
open Go.RowKit
def zj(B:Nat)(W:J):Type:={u:J//Below B W u}
theorem zj.some(B:Nat)(W:J):Nonempty (zj B W):=⟨⟨W,Below.refl _ _⟩⟩
theorem zj.cell{B:Nat}{W:J}(u:zj B W)(b o:Nat)(h:b<B):u.1.cell? ⟨b,o,none⟩=W.cell? ⟨b,o,none⟩:=u.2.cell (p:=⟨b,o,none⟩) h
theorem Calls.later{P:Program}{f:FuncId}{args:Array O}{B:Nat}{W:J}(b:B<=W.1.size){u:zj B W}{v:O}
  (h:Calls P f args u.1 fun e w'=>e=.returned v/\Below u.1.1.size u.1 w'):Calls P f args u.1 fun e a=>e=.returned v/\∃x:zj B W,a=x.1:=
 h.mono fun _ w' ⟨d,c⟩=>⟨d,⟨w',u.2.trans (c.mono (Nat.le_trans b u.2.size))⟩,rfl⟩
theorem Calls.later_same{P:Program}{f:FuncId}{args:Array O}{B:Nat}{W:J}{u:zj B W}{v:O}
  (h:Calls P f args u.1 fun e w'=>e=.returned v/\w'=u.1):Calls P f args u.1 fun e a=>e=.returned v/\∃x:zj B W,a=x.1:=
 h.mono fun _ _ ⟨c,b⟩=>⟨c,u,b⟩
theorem ze{P:Program}{id:Nat}{Q:Exit->Act->J->Prop}{a:Act}{w:J}{l:List Oper}(B:Nat)(c:P.follows .mixedOrders=true)(d:Region.lexB .any l.toArray=true)
  (h:wpQuiet P l.toArray (fun w'=>∃u:zj B w,w'=u.1) (fun b=>∀u:zj B w,Q .normal b u.1) l a):(Code.region id l.toArray true).wp P Q a w:=
 wp_region_quiet (C:=fun w'=>∃u:zj B w,w'=u.1) c d ⟨⟨w.drew,(Below.refl _ _).drew⟩,rfl⟩ (by
  have:(fun b=>∀w',(∃u:zj B w,w'=u.1)->Q .normal b w')=(fun b=>∀u:zj B w,Q .normal b u.1):=by
   funext b;exact propext ⟨fun h u=>h _ ⟨u,rfl⟩,fun h _ ⟨u,e⟩=>e▸h u⟩
  rw[this];simpa using h)
end Go.Proofs.YtndhpgciopcncaaGreatDoor
namespace Go.Proofs
open Go.Shelf
def Tryz.layAI_ren:Go.Shelf.Ren:=⟨fun|176=>167|249=>231|288=>263|283=>286|284=>287|285=>288|286=>289|129=>262|317=>303|318=>304|319=>305|320=>306|337=>313|338=>314|n=>n,fun|37=>250|2=>2|3=>3|53=>334|4=>4|9=>9|171=>359|0=>0|173=>361|212=>387|51=>332|5=>5|20=>20|213=>388|46=>299|232=>400|233=>401|n=>n,fun|17=>3|18=>6|19=>7|n=>n⟩
theorem Tryz.layAI:Go.Proofs.LaysM.n176 prog Tryz.layAI_ren:={
 mixed:=by kernel_rfl
 f129:=func262.trans (congrArg I (by kernel_rfl))
 f176:=func167.trans (congrArg I (by kernel_rfl))
 f249:=func231.trans (congrArg I (by kernel_rfl))
 f283:=func286.trans (congrArg I (by kernel_rfl))
 f284:=func287.trans (congrArg I (by kernel_rfl))
 f285:=func288.trans (congrArg I (by kernel_rfl))
 f286:=func289.trans (congrArg I (by kernel_rfl))
 f288:=func263.trans (congrArg I (by kernel_rfl))
 f317:=func303.trans (congrArg I (by kernel_rfl))
 f318:=func304.trans (congrArg I (by kernel_rfl))
 f319:=func305.trans (congrArg I (by kernel_rfl))
 f320:=func306.trans (congrArg I (by kernel_rfl))
 f337:=func313.trans (congrArg I (by kernel_rfl))
 f338:=func314.trans (congrArg I (by kernel_rfl))
 t0:=underlying0
 a0:=Tryz.isAgg0
 z0:=Tryz.sizeOf0
 v0:=Tryz.zeroValue0
 t2:=underlying2
 a2:=Tryz.isAgg2
 z2:=Tryz.sizeOf2
 v2:=Tryz.zeroValue2
 t3:=underlying3
 a3:=Tryz.isAgg3
 z3:=Tryz.sizeOf3
 v3:=Tryz.zeroValue3
 t4:=underlying4
 a4:=Tryz.isAgg4
 z4:=Tryz.sizeOf4
 v4:=Tryz.zeroValue4
 t5:=underlying5
 a5:=Tryz.isAgg5
 z5:=Tryz.sizeOf5
 v5:=Tryz.zeroValue5
 t9:=underlying9
 a9:=Tryz.isAgg9
 z9:=Tryz.sizeOf9
 v9:=Tryz.zeroValue9
 t20:=underlying20
 a20:=Tryz.isAgg20
 z20:=Tryz.sizeOf20
 v20:=Tryz.zeroValue20
 t37:=underlying250
 a37:=Tryz.isAgg250
 z37:=Tryz.sizeOf250
 v37:=Tryz.zeroValue250
 t46:=underlying299
 a46:=Tryz.isAgg299
 z46:=Tryz.sizeOf299
 v46:=Tryz.zeroValue299
 t51:=underlying332
 a51:=Tryz.isAgg332
 z51:=Tryz.sizeOf332
 v51:=Tryz.zeroValue332
 t53:=underlying334
 a53:=Tryz.isAgg334
 z53:=Tryz.sizeOf334
 v53:=Tryz.zeroValue334
 t171:=underlying359
 a171:=Tryz.isAgg359
 z171:=Tryz.sizeOf359
 v171:=Tryz.zeroValue359
 t173:=underlying361
 a173:=Tryz.isAgg361
 z173:=Tryz.sizeOf361
 v173:=Tryz.zeroValue361
 t212:=underlying387
 a212:=Tryz.isAgg387
 z212:=Tryz.sizeOf387
 v212:=Tryz.zeroValue387
 t213:=underlying388
 a213:=Tryz.isAgg388
 z213:=Tryz.sizeOf388
 t232:=underlying400
 a232:=Tryz.isAgg400
 z232:=Tryz.sizeOf400
 v232:=Tryz.zeroValue400
 t233:=underlying401
 a233:=Tryz.isAgg401
 z233:=Tryz.sizeOf401
 v233:=Tryz.zeroValue401
 g17:=by kernel_rfl
 g18:=by kernel_rfl
 g19:=by kernel_rfl
 i0:=by kernel_rfl
 i2:=by kernel_rfl
 i3:=by kernel_rfl
 i4:=by kernel_rfl
 i5:=by kernel_rfl
 i9:=by kernel_rfl
 i20:=by kernel_rfl
 i37:=by kernel_rfl
 i46:=by kernel_rfl
 i51:=by kernel_rfl
 i53:=by kernel_rfl
 i171:=by kernel_rfl
 i173:=by kernel_rfl
 i212:=by kernel_rfl
 i232:=by kernel_rfl
 i233:=by kernel_rfl
 m17:=by kernel_rfl
 m18:=by kernel_rfl
 m19:=by kernel_rfl}
def Tryz.layLI_ren:Go.Shelf.Ren:=⟨fun|149=>132|222=>204|n=>n,fun|9=>9|5=>5|3=>3|4=>4|n=>n,fun|n=>n⟩
theorem Tryz.layLI:Go.Proofs.Lays.n149 prog Tryz.layLI_ren:={
 mixed:=by kernel_rfl
 f149:=func132.trans (congrArg I (by kernel_rfl))
 f222:=func204.trans (congrArg I (by kernel_rfl))
 t3:=underlying3
 a3:=Tryz.isAgg3
 z3:=Tryz.sizeOf3
 v3:=Tryz.zeroValue3
 t4:=underlying4
 a4:=Tryz.isAgg4
 z4:=Tryz.sizeOf4
 v4:=Tryz.zeroValue4
 t5:=underlying5
 a5:=Tryz.isAgg5
 z5:=Tryz.sizeOf5
 v5:=Tryz.zeroValue5
 t9:=underlying9
 a9:=Tryz.isAgg9
 z9:=Tryz.sizeOf9
 v9:=Tryz.zeroValue9}
def Tryz.sortSeg_ren:Go.Shelf.Ren:=⟨fun|6=>209|15=>230|14=>246|28=>261|29=>262|20=>269|21=>270|22=>271|23=>272|24=>273|25=>274|26=>275|27=>276|46=>297|47=>282|48=>283|49=>298|50=>299|57=>312|n=>n,fun|22=>105|24=>148|25=>283|3=>3|39=>299|0=>0|53=>332|55=>334|4=>4|46=>326|45=>325|50=>121|5=>5|9=>9|66=>352|70=>356|76=>383|77=>384|n=>n,fun|n=>n⟩
theorem Tryz.sortSeg:Go.Proofs.SlLaysF0.n6 prog Tryz.sortSeg_ren:={
 mixed:=by kernel_rfl
 f6:=⟨Tryz.f209.name,by decide,func209.trans (congrArg I (by kernel_rfl))⟩
 f14:=⟨Tryz.f246.name,by decide,func246.trans (congrArg I (by kernel_rfl))⟩
 f15:=func230.trans (congrArg I (by kernel_rfl))
 f20:=⟨Tryz.f269.name,by decide,func269.trans (congrArg I (by kernel_rfl))⟩
 f21:=⟨Tryz.f270.name,by decide,func270.trans (congrArg I (by kernel_rfl))⟩
 f22:=⟨Tryz.f271.name,by decide,func271.trans (congrArg I (by kernel_rfl))⟩
 f23:=⟨Tryz.f272.name,by decide,func272.trans (congrArg I (by kernel_rfl))⟩
 f24:=⟨Tryz.f273.name,by decide,func273.trans (congrArg I (by kernel_rfl))⟩
 f25:=⟨Tryz.f274.name,by decide,func274.trans (congrArg I (by kernel_rfl))⟩
 f26:=⟨Tryz.f275.name,by decide,func275.trans (congrArg I (by kernel_rfl))⟩
 f27:=⟨Tryz.f276.name,by decide,func276.trans (congrArg I (by kernel_rfl))⟩
 f28:=func261.trans (congrArg I (by kernel_rfl))
 f29:=func262.trans (congrArg I (by kernel_rfl))
 f46:=⟨Tryz.f297.name,by decide,func297.trans (congrArg I (by kernel_rfl))⟩
 f47:=func282.trans (congrArg I (by kernel_rfl))
 f48:=func283.trans (congrArg I (by kernel_rfl))
 f49:=⟨Tryz.f298.name,by decide,func298.trans (congrArg I (by kernel_rfl))⟩
 f50:=⟨Tryz.f299.name,by decide,func299.trans (congrArg I (by kernel_rfl))⟩
 f57:=⟨Tryz.f312.name,by decide,func312.trans (congrArg I (by kernel_rfl))⟩
 t0:=underlying0
 a0:=Tryz.isAgg0
 z0:=Tryz.sizeOf0
 v0:=Tryz.zeroValue0
 t3:=underlying3
 a3:=Tryz.isAgg3
 z3:=Tryz.sizeOf3
 v3:=Tryz.zeroValue3
 t4:=underlying4
 a4:=Tryz.isAgg4
 z4:=Tryz.sizeOf4
 v4:=Tryz.zeroValue4
 t5:=underlying5
 a5:=Tryz.isAgg5
 z5:=Tryz.sizeOf5
 v5:=Tryz.zeroValue5
 t9:=underlying9
 a9:=Tryz.isAgg9
 z9:=Tryz.sizeOf9
 v9:=Tryz.zeroValue9
 t22:=underlying105
 a22:=Tryz.isAgg105
 z22:=Tryz.sizeOf105
 v22:=Tryz.zeroValue105
 t25:=underlying283
 a25:=Tryz.isAgg283
 z25:=Tryz.sizeOf283
 v25:=Tryz.zeroValue283
 t39:=underlying299
 a39:=Tryz.isAgg299
 z39:=Tryz.sizeOf299
 v39:=Tryz.zeroValue299
 t45:=underlying325
 a45:=Tryz.isAgg325
 z45:=Tryz.sizeOf325
 v45:=Tryz.zeroValue325
 t46:=underlying326
 a46:=Tryz.isAgg326
 z46:=Tryz.sizeOf326
 v46:=Tryz.zeroValue326
 t50:=underlying121
 a50:=Tryz.isAgg121
 z50:=Tryz.sizeOf121
 v50:=Tryz.zeroValue121
 t53:=underlying332
 a53:=Tryz.isAgg332
 z53:=Tryz.sizeOf332
 v53:=Tryz.zeroValue332
 t55:=underlying334
 a55:=Tryz.isAgg334
 z55:=Tryz.sizeOf334
 v55:=Tryz.zeroValue334
 t66:=underlying352
 a66:=Tryz.isAgg352
 z66:=Tryz.sizeOf352
 v66:=Tryz.zeroValue352
 t70:=underlying356
 a70:=Tryz.isAgg356
 z70:=Tryz.sizeOf356
 v70:=Tryz.zeroValue356
 t76:=underlying383
 a76:=Tryz.isAgg383
 z76:=Tryz.sizeOf383
 v76:=Tryz.zeroValue383
 t77:=underlying384
 a77:=Tryz.isAgg384
 z77:=Tryz.sizeOf384
 v77:=Tryz.zeroValue384}
end Go.Proofs
namespace Go.Proofs.YtndhpgciopcncaaGreatDoor
open Go.RowKit
theorem zd{p:Prop}(h:p):Hid p:=h
theorem ud{p:Prop}(h:Hid p):p:=h
structure zk(f:Nat->Prop)(w w':J):Prop where
 os:w'.os=w.os
 tape:w'.tape=w.tape
 output:w'.output=w.output
 size:w.1.size<=w'.1.size
 block:∀k,k<w.1.size->¬f k->w'.1[k]?=w.1[k]?
theorem zk.refl(f:Nat->Prop)(w:J):zk f w w:=⟨rfl,rfl,rfl,Nat.le_refl _,fun _ _ _=>rfl⟩
theorem zk.trans{f g:Nat->Prop}{a b c:J}(h:zk f a b)(k:zk g b c)(j:∀i,i<a.1.size->g i->f i):zk f a c:=
 ⟨k.os.trans h.os,k.tape.trans h.tape,k.output.trans h.output,Nat.le_trans h.size k.size,
  fun i d e=>(k.block i (Nat.lt_of_lt_of_le d h.size) (fun l=>e (j i d l))).trans (h.block i d e)⟩
theorem zk.mono{f g:Nat->Prop}{w w':J}(h:zk f w w')(a:∀i,i<w.1.size->f i->g i):zk g w w':=
 ⟨h.os,h.tape,h.output,h.size,fun k b hn=>h.block k b (fun c=>hn (a k b c))⟩
theorem zk.drew{f:Nat->Prop}{a w:J}(h:zk f a w):zk f a w.drew:=⟨h.os,h.tape,h.output,h.size,h.block⟩
theorem zk.of_below{f:Nat->Prop}{w w':J}(h:Below w.1.size w w'):zk f w w':=⟨h.os,h.tape,h.output,h.size,fun k a _=>h.block k a⟩
theorem zk.alloc{f:Nat->Prop}{a w:J}(h:zk f a w)(o:Obj):zk f a (w.alloc o):=
 h.trans (g:=f) (zk.of_below ((Below.refl _ _).alloc (Nat.le_refl _) o)) (fun _ _ h=>h)
theorem zk.setCell{f:Nat->Prop}{a w:J}(h:zk f a w){p:Addr}(d:p.block<a.1.size->f p.block)(u:O):zk f a (w.setCell p u):=
 h.trans (g:=fun k=>k=p.block) ⟨rfl,rfl,rfl,by simp[World.setCell],fun k _ hn=>Below.heap_setCell _ _ _ _ hn⟩ (fun i c b=>by subst b;exact d c)
theorem zk.grown{f:Nat->Prop}{a w w':J}{row:Option Nat}(h:zk f a w)(b:w.grownBy w' row)(l:∀k,row=I k->k<a.1.size->f k):zk f a w':=
 h.trans (g:=fun k=>row=I k) ⟨b.os,b.tape,b.output,b.size,fun k j hn=>b.block k j (fun e=>hn e.symm)⟩ (fun i d c=>l i c d)
theorem zk.below{f:Nat->Prop}{w w':J}{B:Nat}(h:zk f w w')(a:B<=w.1.size)(b:∀k,f k->B<=k):Below B w w':=
 ⟨h.os,h.tape,h.output,h.size,fun k d=>h.block k (Nat.lt_of_lt_of_le d a) (fun c=>by have:=b k c;omega)⟩
theorem zk.heap{f:Nat->Prop}{w w':J}(h:zk f w w'){k:Nat}{o:Obj}(a:w.1[k]?=I o)(hn:¬f k):w'.1[k]?=I o:=
 (h.block k (Array.getElem?_eq_some_iff.1 a).1 hn).trans a
theorem zb{w:J}{k:Nat}{o:Obj}(a:w.1[k]?=I o):k<w.1.size:=(Array.getElem?_eq_some_iff.1 a).1
theorem zg{f:Nat->Prop}{w w':J}{base:Nat}{e:TypeId}{size:Nat}{v:O}{n:Nat}{xs:List O}(h:w.ownsRow base e size v n xs)(i:zk f w w')(hn:∀k,v.ownBlock=I k->¬f k):w'.ownsRow base e size v n xs:=by
 refine⟨h.1,?_⟩
 rcases h.2 with b|⟨g,cap,a,rfl,c,d,r⟩
 ·exact .inl b
 ·exact .inr ⟨g,cap,a,rfl,c,i.heap d (hn g rfl),r⟩
theorem zz{w:J}{base:Nat}{e:TypeId}{size:Nat}{v:O}{n:Nat}{xs:List O}(h:w.ownsRow base e size v n xs){k:Nat}(b:v.ownBlock=I k):∃a,w.1[k]?=I (.cells a e (0,0)):=by
 rcases h.2 with⟨rfl,_⟩|⟨g,cap,a,rfl,_,c,_⟩
 ·cases b
 ·simp[Value.ownBlock]at b;subst b;exact⟨a,c⟩
section
variable {P:Program} (w:J)
theorem je(t G:TypeId)(base:Nat)(e:TypeId)(i:TypeInfo)(z:O)(size f:Nat)(N:P.underlying t=I (.slice e))(H:P.info? e=I i)(V:i.zero=I z)
  (l:i.size=size) (s:i.bytes=f) (R:z.cells.size=size) (M:0<size)
  (v:O) (n:Nat) (xs:List O) (b:w.ownsRow base e size v n xs)
  (ad:Addr) (m c:Nat) (a:List O) (E:a.length=m*size) (hnews:∀j u,a[j]?=I u->w.cell? (ad.add j)=I u) (S:∀u∈a,u.oneCell'=true)
  (Y:0<m) (h63:n+m<=maxLen) (hbytes:(n+m)*f<=140737488355328) (hbase:base<=w.1.size):
  ∃g cap w',(Builtin.append_ #[t,t] G #[v,.slice (I ad) m c]).run P w=.ok (.slice (I ⟨g,0,none⟩) (n+m) cap) w'/\
   w'.ownsRow base e size (.slice (I ⟨g,0,none⟩) (n+m) cap) (n+m) (xs++a)/\w'.ownsRow base e size v n xs/\w.grownBy w' v.ownBlock/\(v.ownBlock=I g\/g=w.1.size)/\g<w'.1.size:=by
 obtain⟨Z,w',L,T,W,_,r⟩:=run_append_own_at (P:=P) w base t G e i z size f N H V l s R M v n xs b ad m c a E hnews S h63 hbytes hbase
 obtain⟨g,cap,rfl,_,K⟩:=T.form (by omega)
 refine⟨g,cap,w',L,T,?_,W,?_,K⟩
 ·refine⟨b.1,?_⟩
  rcases b.2 with hn|⟨p,d,o,rfl,U,D,B,x,y,C⟩
  ·exact .inl hn
  ·right
   subst l
   subst s
   by_cases k:n+m<=d
   ·have A:n*i.size+a.length<=o.size:=by rw[E,y,<-Nat.add_mul];exact Nat.mul_le_mul_right _ k
    have h:=run_append_room (P:=P) w t G e i N H p n d o D ad m c a E hnews S k A
    rw[L]at h
    injection h with _ Q
    subst Q
    refine⟨p,d,_,rfl,U,setRow_heap w p o _ e _ D,B,x,?_,?_⟩
    ·simp only[List.size_toArray,List.length_append,List.length_take,List.length_drop,Array.length_toList]
     omega
    ·have X:xs.length=n*i.size:=b.1
     simp only[C]
     rw[List.append_assoc,<-X]
     exact List.take_left
   ·have F:n+m<=9223372036854775807:=by simp only[maxLen]at h63;omega
    have q:∀j u,xs[j]?=I u->w.cell? ((⟨p,0,none⟩:Addr).add j)=I u:=b.cells (g:=p) rfl
    have h:=run_append_grow (P:=P) w t G e i z N H V ⟨p,0,none⟩ n d xs b.1 q ad m c a E hnews (by omega) (by omega) (growslice_fits (by omega) hbytes)
    rw[L]at h
    injection h with _ Q
    subst Q
    exact⟨p,d,o,rfl,U,(Below.heap_alloc w.drew _ p (zb D)).trans D,B,x,y,C⟩
 ·rcases r with r|r
  ·exact .inl (r.symm.trans rfl)
  ·simp[Value.ownBlock]at r;exact .inr r
theorem zJ{w:J}{ops:Array Oper}{rest:List Oper}{o:Oper}{a:Act}{Q:Exit->Act->J->Prop}(q:o.guard=none)(s x:Operand)(t:TypeId)
  (N:o.op=.call {callee:=.builtin .append,args:=#[s,x],argTypes:=#[t,t]})
  (base:Nat) (e:TypeId) (z:O) (size d:Nat) (T:P.underlying t=I (.slice e)) (f:(P.info? e).map (fun i=>(i.zero,i.size,i.bytes))=I (I z,size,d)) (A:z.cells.size=size) (y:0<size)
  (v:O) (n:Nat) (xs:List O) (S:a.eval s=v) (l:w.ownsRow base e size v n xs)
  (ad:Addr) (m c:Nat) (b:List O) (U:a.eval x=.slice (I ad) m c) (L:b.length=m*size) (hnews:∀j u,b[j]?=I u->w.cell? (ad.add j)=I u) (B:∀u∈b,u.oneCell'=true)
  (M:0<m) (h63:n+m<=maxLen) (hbytes:(n+m)*d<=140737488355328) (hbase:base<=w.1.size)
  (h:∀g cap w',w'.ownsRow base e size (.slice (I ⟨g,0,none⟩) (n+m) cap) (n+m) (xs++b)->w'.ownsRow base e size v n xs->w.grownBy w' v.ownBlock->(v.ownBlock=I g\/g=w.1.size)->g<w'.1.size->wpList P ops Q rest (a.put o.dst (.slice (I ⟨g,0,none⟩) (n+m) cap)) w'):wpList P ops Q (o::rest) a w:=by
 cases r:P.info? e with
 |none=>simp[r]at f
 |some i=>
  simp only[r,Option.map_some,Option.some.injEq,Prod.mk.injEq]at f
  obtain⟨V,k,p⟩:=f
  refine wpList_plain q fun K H=>?_
  obtain⟨g,cap,w',R,C,D,E,F,G⟩:=je (P:=P) w t o.type base e i z size d T r V k p A y v n xs l ad m c b L hnews B M h63 hbytes hbase
  unfold Oper.wp
  simp[execOp,N,resolve,invoke,builtin,S,U,R,Result.andThen]
  exact H _ _ (h g cap w' C D E F G)
end
end Go.Proofs.YtndhpgciopcncaaGreatDoor
