import Derived.WalkKit
import Derived.Below
import Derived.Deep.QuietTactic
import Derived.BigQuiet
import Derived.Shelf.SlLaysF0
import Derived.Shelf.SlGeneric
import Derived.Test.YtpbimdkclnekeaaGreatProg
import Derived.Maps.AppendAt
import Derived.Deep.AppendLies
import Derived.Laws.CopyOwn
import Derived.Laws.CopyRow
import Derived.Laws.IdiomCopy
import Derived.Deep.WholeRow
import Derived.Tactics
import Derived.Test.YtpbimdkclnekeaaGreatRows
import Derived.Test.YtpbimdkclnekeaaGreatVConf0
import Derived.WalkSpells
import Derived.WalkLawsBesides
open Go.Value renaming int → I
open Go.IntKind renaming i64 → J
open Option renaming some → O
open Go renaming World → E
open Option renaming none → U
open Go renaming Value → Y
open Go.RowKit.Below renaming refl → Z
open Nat renaming le_refl → X
open Go.RowKit renaming Below → N
open Nat renaming lt_of_lt_of_le → S
open List renaming mem_cons → A
open Go.IntKind (i32)
set_option maxHeartbeats 400000
open Go.Proofs.Tryz
namespace Go.Proofs.YtpbimdkclnekeaaGreat
open Go.RowKit
def zm(B:Nat)(W:E):Type:={u:E//N B W u}
theorem zm.some(B:Nat)(W:E):Nonempty (zm B W):=⟨⟨W,Z _ _⟩⟩
theorem zm.cell{B:Nat}{W:E}(u:zm B W)(b o:Nat)(h:b<B):u.1.cell? ⟨b,o,U⟩=W.cell? ⟨b,o,U⟩:=u.2.cell (p:=⟨b,o,U⟩) h
theorem Calls.later{P:Program}{f:FuncId}{args:Array Y}{B:Nat}{W:E}(b:B<=W.1.size){u:zm B W}{v:Y}
  (h:Calls P f args u.1 fun e w'=>e=.returned v/\N u.1.1.size u.1 w'):Calls P f args u.1 fun e a=>e=.returned v/\∃x:zm B W,a=x.1:=
 h.mono fun _ w' ⟨d,c⟩=>⟨d,⟨w',u.2.trans (c.mono (Nat.le_trans b u.2.size))⟩,rfl⟩
theorem Calls.later_same{P:Program}{f:FuncId}{args:Array Y}{B:Nat}{W:E}{u:zm B W}{v:Y}
  (h:Calls P f args u.1 fun e w'=>e=.returned v/\w'=u.1):Calls P f args u.1 fun e a=>e=.returned v/\∃x:zm B W,a=x.1:=
 h.mono fun _ _ ⟨c,b⟩=>⟨c,u,b⟩
theorem zh{P:Program}{id:Nat}{Q:Exit->Act->E->Prop}{a:Act}{w:E}{l:List Oper}(B:Nat)(b:P.follows .mixedOrders=true)(c:Region.lexB .any l.toArray=true)
  (h:wpQuiet P l.toArray (fun w'=>∃u:zm B w,w'=u.1) (fun a'=>∀u:zm B w,Q .normal a' u.1) l a):(Code.region id l.toArray true).wp P Q a w:=
 wp_region_quiet (C:=fun w'=>∃u:zm B w,w'=u.1) b c ⟨⟨w.drew,(Z _ _).drew⟩,rfl⟩ (by
  have:(fun a'=>∀w',(∃u:zm B w,w'=u.1)->Q .normal a' w')=(fun a'=>∀u:zm B w,Q .normal a' u.1):=by
   funext a';exact propext ⟨fun h u=>h _ ⟨u,rfl⟩,fun h _ ⟨u,e⟩=>e▸h u⟩
  rw[this];simpa using h)
end Go.Proofs.YtpbimdkclnekeaaGreat
namespace Go.Proofs
open Go.Shelf
def Tryz.sortTsk_ren:Go.Shelf.Ren:=⟨fun|6=>140|15=>180|14=>179|28=>216|29=>217|20=>208|21=>209|22=>210|23=>211|24=>212|25=>213|26=>214|27=>215|46=>225|47=>226|48=>227|49=>228|50=>229|57=>232|n=>n,fun|22=>171|24=>162|25=>167|3=>3|39=>249|0=>0|53=>283|55=>285|4=>4|46=>277|45=>276|50=>121|5=>5|9=>9|66=>293|70=>297|76=>300|77=>301|n=>n,fun|n=>n⟩
theorem Tryz.sortTsk:Go.Proofs.SlLaysF0.n6 prog Tryz.sortTsk_ren:={
 mixed:=by kernel_rfl
 f6:=⟨Tryz.f140.name,by decide,func140.trans (congrArg O (by kernel_rfl))⟩
 f14:=⟨Tryz.f179.name,by decide,func179.trans (congrArg O (by kernel_rfl))⟩
 f15:=func180.trans (congrArg O (by kernel_rfl))
 f20:=⟨Tryz.f208.name,by decide,func208.trans (congrArg O (by kernel_rfl))⟩
 f21:=⟨Tryz.f209.name,by decide,func209.trans (congrArg O (by kernel_rfl))⟩
 f22:=⟨Tryz.f210.name,by decide,func210.trans (congrArg O (by kernel_rfl))⟩
 f23:=⟨Tryz.f211.name,by decide,func211.trans (congrArg O (by kernel_rfl))⟩
 f24:=⟨Tryz.f212.name,by decide,func212.trans (congrArg O (by kernel_rfl))⟩
 f25:=⟨Tryz.f213.name,by decide,func213.trans (congrArg O (by kernel_rfl))⟩
 f26:=⟨Tryz.f214.name,by decide,func214.trans (congrArg O (by kernel_rfl))⟩
 f27:=⟨Tryz.f215.name,by decide,func215.trans (congrArg O (by kernel_rfl))⟩
 f28:=func216.trans (congrArg O (by kernel_rfl))
 f29:=func217.trans (congrArg O (by kernel_rfl))
 f46:=⟨Tryz.f225.name,by decide,func225.trans (congrArg O (by kernel_rfl))⟩
 f47:=func226.trans (congrArg O (by kernel_rfl))
 f48:=func227.trans (congrArg O (by kernel_rfl))
 f49:=⟨Tryz.f228.name,by decide,func228.trans (congrArg O (by kernel_rfl))⟩
 f50:=⟨Tryz.f229.name,by decide,func229.trans (congrArg O (by kernel_rfl))⟩
 f57:=⟨Tryz.f232.name,by decide,func232.trans (congrArg O (by kernel_rfl))⟩
 t0:=underlying0
 a0:=Tryz.isAgg0
 z0:=Tryz.sizeOf0
 v0:=Tryz.zeroValue0
 t3:=underlying3
 a3:=Tryz.isAgg3
 z3:=Tryz.sizeOf3
 v3:=Tryz.zeroValue3
 t4:=underlying4
 a4:=Tryz.isAgg4
 z4:=Tryz.sizeOf4
 v4:=Tryz.zeroValue4
 t5:=underlying5
 a5:=Tryz.isAgg5
 z5:=Tryz.sizeOf5
 v5:=Tryz.zeroValue5
 t9:=underlying9
 a9:=Tryz.isAgg9
 z9:=Tryz.sizeOf9
 v9:=Tryz.zeroValue9
 t22:=underlying171
 a22:=Tryz.isAgg171
 z22:=Tryz.sizeOf171
 v22:=Tryz.zeroValue171
 t25:=underlying167
 a25:=Tryz.isAgg167
 z25:=Tryz.sizeOf167
 v25:=Tryz.zeroValue167
 t39:=underlying249
 a39:=Tryz.isAgg249
 z39:=Tryz.sizeOf249
 v39:=Tryz.zeroValue249
 t45:=underlying276
 a45:=Tryz.isAgg276
 z45:=Tryz.sizeOf276
 v45:=Tryz.zeroValue276
 t46:=underlying277
 a46:=Tryz.isAgg277
 z46:=Tryz.sizeOf277
 v46:=Tryz.zeroValue277
 t50:=underlying121
 a50:=Tryz.isAgg121
 z50:=Tryz.sizeOf121
 v50:=Tryz.zeroValue121
 t53:=underlying283
 a53:=Tryz.isAgg283
 z53:=Tryz.sizeOf283
 v53:=Tryz.zeroValue283
 t55:=underlying285
 a55:=Tryz.isAgg285
 z55:=Tryz.sizeOf285
 v55:=Tryz.zeroValue285
 t66:=underlying293
 a66:=Tryz.isAgg293
 z66:=Tryz.sizeOf293
 v66:=Tryz.zeroValue293
 t70:=underlying297
 a70:=Tryz.isAgg297
 z70:=Tryz.sizeOf297
 v70:=Tryz.zeroValue297
 t76:=underlying300
 a76:=Tryz.isAgg300
 z76:=Tryz.sizeOf300
 v76:=Tryz.zeroValue300
 t77:=underlying301
 a77:=Tryz.isAgg301
 z77:=Tryz.sizeOf301
 v77:=Tryz.zeroValue301}
end Go.Proofs
namespace Go.Proofs.YtpbimdkclnekeaaGreat
open Go.RowKit
theorem ze{p:Prop}(h:p):Hid p:=h
theorem ud{p:Prop}(h:Hid p):p:=h
structure zk(f:Nat->Prop)(w w':E):Prop where
 os:w'.os=w.os
 tape:w'.tape=w.tape
 output:w'.output=w.output
 size:w.1.size<=w'.1.size
 block:∀k,k<w.1.size->¬f k->w'.1[k]?=w.1[k]?
theorem zk.refl(f:Nat->Prop)(w:E):zk f w w:=⟨rfl,rfl,rfl,X _,fun _ _ _=>rfl⟩
theorem zk.trans{f g:Nat->Prop}{a b c:E}(h:zk f a b)(k:zk g b c)(j:∀i,i<a.1.size->g i->f i):zk f a c:=
 ⟨k.os.trans h.os,k.tape.trans h.tape,k.output.trans h.output,Nat.le_trans h.size k.size,
  fun i d e=>(k.block i (S d h.size) (fun l=>e (j i d l))).trans (h.block i d e)⟩
theorem zk.mono{f g:Nat->Prop}{w w':E}(h:zk f w w')(a:∀i,i<w.1.size->f i->g i):zk g w w':=
 ⟨h.os,h.tape,h.output,h.size,fun k b hn=>h.block k b (fun c=>hn (a k b c))⟩
theorem zk.drew{f:Nat->Prop}{a w:E}(h:zk f a w):zk f a w.drew:=⟨h.os,h.tape,h.output,h.size,h.block⟩
theorem zk.of_below{f:Nat->Prop}{w w':E}(h:N w.1.size w w'):zk f w w':=⟨h.os,h.tape,h.output,h.size,fun k a _=>h.block k a⟩
theorem zk.alloc{f:Nat->Prop}{a w:E}(h:zk f a w)(o:Obj):zk f a (w.alloc o):=
 h.trans (g:=f) (zk.of_below ((Z _ _).alloc (X _) o)) (fun _ _ h=>h)
theorem zk.setCell{f:Nat->Prop}{a w:E}(h:zk f a w){p:Addr}(d:p.block<a.1.size->f p.block)(u:Y):zk f a (w.setCell p u):=
 h.trans (g:=fun k=>k=p.block) ⟨rfl,rfl,rfl,by simp[World.setCell],fun k _ hn=>Below.heap_setCell _ _ _ _ hn⟩ (fun i c b=>by subst b;exact d c)
theorem zk.grown{f:Nat->Prop}{a w w':E}{row:Option Nat}(h:zk f a w)(b:w.grownBy w' row)(l:∀k,row=O k->k<a.1.size->f k):zk f a w':=
 h.trans (g:=fun k=>row=O k) ⟨b.os,b.tape,b.output,b.size,fun k j hn=>b.block k j (fun e=>hn e.symm)⟩ (fun i d c=>l i c d)
theorem zk.below{f:Nat->Prop}{w w':E}{B:Nat}(h:zk f w w')(a:B<=w.1.size)(b:∀k,f k->B<=k):N B w w':=
 ⟨h.os,h.tape,h.output,h.size,fun k d=>h.block k (S d a) (fun c=>by have:=b k c;omega)⟩
theorem zk.heap{f:Nat->Prop}{w w':E}(h:zk f w w'){k:Nat}{o:Obj}(a:w.1[k]?=O o)(hn:¬f k):w'.1[k]?=O o:=
 (h.block k (Array.getElem?_eq_some_iff.1 a).1 hn).trans a
theorem zd{w:E}{k:Nat}{o:Obj}(a:w.1[k]?=O o):k<w.1.size:=(Array.getElem?_eq_some_iff.1 a).1
theorem zi{f:Nat->Prop}{w w':E}{base:Nat}{e:TypeId}{size:Nat}{v:Y}{n:Nat}{xs:List Y}(h:w.ownsRow base e size v n xs)(i:zk f w w')(hn:∀k,v.ownBlock=O k->¬f k):w'.ownsRow base e size v n xs:=by
 refine⟨h.1,?_⟩
 rcases h.2 with b|⟨g,cap,a,rfl,c,d,r⟩
 ·exact .inl b
 ·exact .inr ⟨g,cap,a,rfl,c,i.heap d (hn g rfl),r⟩
theorem zO{w:E}{base:Nat}{e:TypeId}{size:Nat}{v:Y}{n:Nat}{xs:List Y}(h:w.ownsRow base e size v n xs){k:Nat}(b:v.ownBlock=O k):∃a,w.1[k]?=O (.cells a e (0,0)):=by
 rcases h.2 with⟨rfl,_⟩|⟨g,cap,a,rfl,_,c,_⟩
 ·cases b
 ·simp[Value.ownBlock]at b;subst b;exact⟨a,c⟩
section
variable {P:Program} (w:E)
theorem vi(t K:TypeId)(base:Nat)(e:TypeId)(i:TypeInfo)(z:Y)(size f:Nat)(T:P.underlying t=O (.slice e))(L:P.info? e=O i)(hz:i.zero=O z)
  (l:i.size=size) (hby:i.bytes=f) (W:z.cells.size=size) (R:0<size)
  (v:Y) (n:Nat) (xs:List Y) (b:w.ownsRow base e size v n xs)
  (ad:Addr) (m c:Nat) (a:List Y) (G:a.length=m*size) (hnews:∀j u,a[j]?=O u->w.cell? (ad.add j)=O u) (h1:∀u∈a,u.oneCell'=true)
  (hm:0<m) (h63:n+m<=maxLen) (hbytes:(n+m)*f<=140737488355328) (q:base<=w.1.size):
  ∃g cap w',(Builtin.append_ #[t,t] K #[v,.slice (O ad) m c]).run P w=.ok (.slice (O ⟨g,0,U⟩) (n+m) cap) w'/\
   w'.ownsRow base e size (.slice (O ⟨g,0,U⟩) (n+m) cap) (n+m) (xs++a)/\w'.ownsRow base e size v n xs/\w.grownBy w' v.ownBlock/\(v.ownBlock=O g\/g=w.1.size)/\g<w'.1.size:=by
 obtain⟨v',w',Q,h2,h3,_,s⟩:=run_append_own_at (P:=P) w base t K e i z size f T L hz l hby W R v n xs b ad m c a G hnews h1 h63 hbytes q
 obtain⟨g,cap,rfl,_,M⟩:=h2.form (by omega)
 refine⟨g,cap,w',Q,h2,?_,h3,?_,M⟩
 ·refine⟨b.1,?_⟩
  rcases b.2 with hn|⟨p,d,o,rfl,hb,F,C,x,y,D⟩
  ·exact .inl hn
  ·right
   subst l
   subst hby
   by_cases k:n+m<=d
   ·have B:n*i.size+a.length<=o.size:=by rw[G,y,<-Nat.add_mul];exact Nat.mul_le_mul_right _ k
    have h:=run_append_room (P:=P) w t K e i T L p n d o F ad m c a G hnews h1 k B
    rw[Q]at h
    injection h with _ V
    subst V
    refine⟨p,d,_,rfl,hb,setRow_heap w p o _ e _ F,C,x,?_,?_⟩
    ·simp only[List.size_toArray,List.length_append,List.length_take,List.length_drop,Array.length_toList]
     omega
    ·have hx:xs.length=n*i.size:=b.1
     simp only[D]
     rw[List.append_assoc,<-hx]
     exact List.take_left
   ·have H:n+m<=9223372036854775807:=by simp only[maxLen]at h63;omega
    have r:∀j u,xs[j]?=O u->w.cell? ((⟨p,0,U⟩:Addr).add j)=O u:=b.cells (g:=p) rfl
    have h:=run_append_grow (P:=P) w t K e i z T L hz ⟨p,0,U⟩ n d xs b.1 r ad m c a G hnews (by omega) (by omega) (growslice_fits (by omega) hbytes)
    rw[Q]at h
    injection h with _ V
    subst V
    exact⟨p,d,o,rfl,hb,(Below.heap_alloc w.drew _ p (zd F)).trans F,C,x,y,D⟩
 ·rcases s with s|s
  ·exact .inl (s.symm.trans rfl)
  ·simp[Value.ownBlock]at s;exact .inr s
theorem zP{w:E}{ops:Array Oper}{rest:List Oper}{o:Oper}{a:Act}{Q:Exit->Act->E->Prop}(q:o.guard=U)(s x:Operand)(t:TypeId)
  (V:o.op=.call {callee:=.builtin .append,args:=#[s,x],argTypes:=#[t,t]})
  (base:Nat) (e:TypeId) (z:Y) (size d:Nat) (ht:P.underlying t=O (.slice e)) (f:(P.info? e).map (fun i=>(i.zero,i.size,i.bytes))=O (O z,size,d)) (B:z.cells.size=size) (y:0<size)
  (v:Y) (n:Nat) (xs:List Y) (hs:a.eval s=v) (p:w.ownsRow base e size v n xs)
  (ad:Addr) (m c:Nat) (b:List Y) (hx:a.eval x=.slice (O ad) m c) (R:b.length=m*size) (hnews:∀j u,b[j]?=O u->w.cell? (ad.add j)=O u) (C:∀u∈b,u.oneCell'=true)
  (T:0<m) (h63:n+m<=maxLen) (hbytes:(n+m)*d<=140737488355328) (k:base<=w.1.size)
  (h:∀g cap w',w'.ownsRow base e size (.slice (O ⟨g,0,U⟩) (n+m) cap) (n+m) (xs++b)->w'.ownsRow base e size v n xs->w.grownBy w' v.ownBlock->(v.ownBlock=O g\/g=w.1.size)->g<w'.1.size->wpList P ops Q rest (a.put o.dst (.slice (O ⟨g,0,U⟩) (n+m) cap)) w'):wpList P ops Q (o::rest) a w:=by
 cases r:P.info? e with
 |none=>simp[r]at f
 |some i=>
  simp only[r,Option.map_some,Option.some.injEq,Prod.mk.injEq]at f
  obtain⟨hz,l,hby⟩:=f
  refine wpList_plain q fun K M=>?_
  obtain⟨g,cap,w',W,D,F,G,H,L⟩:=vi (P:=P) w t o.type base e i z size d ht r hz l hby B y v n xs p ad m c b R hnews C T h63 hbytes k
  unfold Oper.wp
  simp[execOp,V,resolve,invoke,builtin,hs,hx,W,Result.andThen]
  exact M _ _ (h g cap w' D F G H L)
end
theorem Xl{P:Program}(w:E)(r G H d:TypeId)(n:Nat)(g a f:Nat)(q:Option Addr)(b l:Nat)(c:Array Y)(t:TypeId)(cs:List Y)
  (z:P.underlying r=O (.slice d)) (y:(P.info? d).map (·.size)=O n) (s:w.1[g]?=O (.cells c t (0,0))) (hn:cs.length=Nat.min b a*n)
  (k:0<cs.length->∃ad,q=O ad/\∀j v,cs[j]?=O v->w.cell? (ad.add j)=O v) (h:cs.length<=c.size) (C:∀v∈cs,v.oneCell'=true):
  (Builtin.copy_ #[r,G] H #[.slice (O ⟨g,0,U⟩) a f,.slice q b l]).run P w=.ok (goInt (Nat.min b a)) (w.setRow g (cs++c.toList.drop cs.length).toArray):=by
 have p:=run_storeCells_at P g 0 t cs 0 c w s (by simpa using h) C
 cases m:P.info? d with
 |none=>simp[m]at y
 |some i=>
  have u:i.size=n:=by simpa[m]using y
  by_cases B:cs.length=0
  ·obtain rfl:cs=[]:=List.eq_nil_of_length_eq_zero B
   have F:Nat.min b a*n=0:=by simpa using hn.symm
   have o:∀(x:Addr),(loadCells x 0).run P w=.ok #[] w:=fun x=>by simpa using run_loadCells_list (P:=P) w x [] (by simp)
   have e:=setRow_self w g c t (0,0) s
   cases q<;>simp[Builtin.copy_,run_underlying z,Builtin.lenOf,Builtin.firstCells,sizeOf,typeInfo,m,u,F,storeCells,o,e]
  ·obtain⟨ad,rfl,D⟩:=k (by omega)
   have o:=run_loadCells_list (P:=P) w ad cs D
   simp[Builtin.copy_,run_underlying z,Builtin.lenOf,Builtin.firstCells,sizeOf,typeInfo,m,u,<-hn,o,p]
def ZV(F W K:Nat->Int)(j:Nat):Y:=if j%3=0 then I J (F (j/3))else if j%3=1 then I J (W (j/3))else I J (K (j/3))
theorem zaC(F W K:Nat->Int)(i:Nat):ZV F W K (i*3)=I J (F i):=by
 unfold ZV;rw[if_pos (by omega),show i*3/3=i by omega]
theorem zaD(F W K:Nat->Int)(i:Nat):ZV F W K (i*3+1)=I J (W i):=by
 unfold ZV;rw[if_neg (by omega),if_pos (by omega),show(i*3+1)/3=i by omega]
theorem zaE(F W K:Nat->Int)(i:Nat):ZV F W K (i*3+2)=I J (K i):=by
 unfold ZV;rw[if_neg (by omega),if_neg (by omega),show(i*3+2)/3=i by omega]
def Xk(n:Nat)(F W K:Nat->Int):List Y:=(List.range (n*3)).map (ZV F W K)
theorem xl(n:Nat)(F W K:Nat->Int):(Xk n F W K).length=n*3:=by simp[Xk]
theorem QD(n:Nat)(F W K:Nat->Int)(j:Nat)(h:j<n*3):(Xk n F W K)[j]?=O (ZV F W K j):=by simp[Xk,h]
theorem VG(n:Nat)(F W K:Nat->Int):∀v∈Xk n F W K,v.oneCell'=true:=by
 intro v hv
 simp only[Xk,List.mem_map]at hv
 obtain⟨j,_,rfl⟩:=hv
 unfold ZV
 split
 ·rfl
 ·split<;>rfl
def TS(w:E)(a:Option Addr)(n:Nat)(F W K:Nat->Int):Prop:=
 0<n->∃b c,a=O ⟨b,c,U⟩/\b<w.1.size/\∀i,i<n->w.cell? ⟨b,c+i*3,U⟩=O (I J (F i))/\w.cell? ⟨b,c+i*3+1,U⟩=O (I J (W i))/\w.cell? ⟨b,c+i*3+2,U⟩=O (I J (K i))
theorem TS.below{w w':E}{a:Option Addr}{n:Nat}{F W K:Nat->Int}(h:TS w a n F W K)(f:N w.1.size w w'):TS w' a n F W K:=fun g=>by
 obtain⟨b,d,rfl,c,j⟩:=h g
 have e:∀o,w'.cell? ⟨b,o,U⟩=w.cell? ⟨b,o,U⟩:=fun o=>f.cell (p:=⟨b,o,U⟩) c
 exact⟨b,d,rfl,S c f.size,fun i k=>by simp only[e];exact j i k⟩
theorem zku{W a:E}(c:N W.1.size W a):(∀b o,b<W.1.size->a.cell? ⟨b,o,U⟩=W.cell? ⟨b,o,U⟩)/\(∀b o,b<W.1.size->a.frozen? ⟨b,o,U⟩=W.frozen? ⟨b,o,U⟩):=
 ⟨fun b o h=>c.cell (p:=⟨b,o,U⟩) h,fun b o h=>c.frozen (p:=⟨b,o,U⟩) h⟩
theorem QO(w:E)(C:Array Y)(t:TypeId)(a:Nat×Nat)(n j:Nat)(hn:n=w.1.size):(w.alloc (.cells C t a)).cell? ⟨n,j,U⟩=C[j]?:=by
 subst hn
 exact World.cell?_alloc_mark w C t a j
def CF(w:E)(p:Nat)(s c b e ke d:Int)(a:Option Addr)(n cap:Nat):Prop:=
 p<w.1.size/\w.cell? ⟨p,0,U⟩=O (I J s)/\w.cell? ⟨p,1,U⟩=O (I J c)/\w.cell? ⟨p,2,U⟩=O (I J b)/\w.cell? ⟨p,3,U⟩=O (I J e)/\w.cell? ⟨p,4,U⟩=O (I J ke)/\w.cell? ⟨p,5,U⟩=O (I J d)/\w.cell? ⟨p,6,U⟩=O (.slice a n cap)
theorem CF.made(w:E)(t:TypeId)(f:Nat×Nat)(s c b e ke d:Int)(a:Option Addr)(n cap:Nat):
  CF (w.alloc (.cells #[I J s,I J c,I J b,I J e,I J ke,I J d,.slice a n cap] t f)) w.1.size s c b e ke d a n cap:=by
 refine⟨by simp,?_,?_,?_,?_,?_,?_,?_⟩<;>rw[QO _ _ _ _ _ _ rfl]<;>rfl
theorem CF.below{w w':E}{p B:Nat}{s d c g ke f:Int}{a:Option Addr}{n cap:Nat}(h:CF w p s d c g ke f a n cap)(b:N B w w')(j:p<B):CF w' p s d c g ke f a n cap:=by
 have e:∀o,w'.cell? ⟨p,o,U⟩=w.cell? ⟨p,o,U⟩:=fun o=>b.cell (p:=⟨p,o,U⟩) j
 obtain⟨i,h⟩:=h
 exact⟨S i b.size,by simp only[e];exact h⟩
theorem zL{a b:Bool}(h:a=b):Ending.returned (.bool a)=.returned (.bool b):=by rw[h]
theorem jK{k:IntKind}{a b:Int}(h:a=b):Ending.returned (.int k a)=.returned (.int k b):=by rw[h]
theorem xI(x b a:Int)(w:E):
  Calls prog 77 #[I J x,I J b,I J a] w fun e w'=>e=.returned (.bool (inB x b a))/\w'=w:=by
 by_cases c:b<=x
 ·by_cases d:x<=a
  all_goals
   go_enter func77,ntmps77
   go_wp2
   go_ret
   exact⟨zL (by simp[inB, *]),rfl⟩
 ·go_enter func77,ntmps77
  go_wp2
  go_ret
  exact⟨zL (by simp[inB];omega),rfl⟩
theorem jp(x b a:Int)(w:E):
  Calls prog 99 #[I J x,I J b,I J a] w fun e w'=>e=.returned (.bool (inB x b a))/\w'=w:=by
 by_cases c:b<=x
 ·by_cases d:x<=a
  all_goals
   go_enter func99,ntmps99
   go_wp2
   go_ret
   exact⟨zL (by simp[inB, *]),rfl⟩
 ·go_enter func99,ntmps99
  go_wp2
  go_ret
  exact⟨zL (by simp[inB];omega),rfl⟩
theorem zgZ(s d c b ke f:Int)(a:Option Addr)(n cap:Nat)(w:E):
  Calls prog 206 #[.agg #[I J s,I J d,I J c,I J b,I J ke,I J f,.slice a n cap],I J (-1)] w fun e w'=>e=.returned (I J b)/\N w.1.size w w':=by
 go_enter func206,ntmps206
 go_wp2
 go_ret
 exact⟨rfl,(Z _ _).alloc (X _) _⟩
theorem zee(s l k p ke o:Int)(a:Option Addr)(n cap:Nat)(F W K:Nat->Int)(i:Nat)(f:i<n)(hn:n<=4)(w:E)(h:TS w a n F W K):
  Calls prog 206 #[.agg #[I J s,I J l,I J k,I J p,I J ke,I J o,.slice a n cap],I J i] w fun e w'=>e=.returned (I J (W i))/\N w.1.size w w':=by
 obtain⟨b,m,rfl,c,d⟩:=h (by omega)
 obtain⟨q,r,t⟩:=d i f
 have j:((i:Int)== -1)=false:=beq_eq_false_iff_ne.2 (by omega)
 have g:(i:Int)<n:=by omega
 go_enter func206,ntmps206
 go_wp2
 go_ret
 exact⟨rfl,(Z _ _).alloc (X _) _⟩
theorem zek(s d c b ke f:Int)(a:Option Addr)(n cap:Nat)(w:E):
  Calls prog 101 #[.agg #[I J s,I J d,I J c,I J b,I J ke,I J f,.slice a n cap],I J (-1)] w fun e w'=>e=.returned (I J b)/\N w.1.size w w':=by
 go_enter func101,ntmps101
 go_wp2
 go_ret
 exact⟨rfl,(Z _ _).alloc (X _) _⟩
theorem zcE(s l k p ke o:Int)(a:Option Addr)(n cap:Nat)(F W K:Nat->Int)(i:Nat)(f:i<n)(hn:n<=4)(w:E)(h:TS w a n F W K):
  Calls prog 101 #[.agg #[I J s,I J l,I J k,I J p,I J ke,I J o,.slice a n cap],I J i] w fun e w'=>e=.returned (I J (W i))/\N w.1.size w w':=by
 obtain⟨b,m,rfl,c,d⟩:=h (by omega)
 obtain⟨q,r,t⟩:=d i f
 have j:((i:Int)== -1)=false:=beq_eq_false_iff_ne.2 (by omega)
 have g:(i:Int)<n:=by omega
 go_enter func101,ntmps101
 go_wp2
 go_ret
 exact⟨rfl,(Z _ _).alloc (X _) _⟩
theorem ko(s d c b ke f:Int)(a:Option Addr)(n cap:Nat)(F W K:Nat->Int)(t:Int)(g: -1<=t)(j:t<n)(hn:n<=4)(w:E)(h:TS w a n F W K):
  Calls prog 206 #[.agg #[I J s,I J d,I J c,I J b,I J ke,I J f,.slice a n cap],I J t] w fun e w'=>e=.returned (I J (xd b W t))/\N w.1.size w w':=by
 by_cases e:t= -1
 ·subst e;simp only[xd,if_pos];exact zgZ s d c b ke f a n cap w
 ·obtain⟨i,rfl⟩:=Int.eq_ofNat_of_zero_le (show 0<=t by omega)
  simp only[xd,if_neg e,Int.toNat_natCast];exact zee s d c b ke f a n cap F W K i (by omega) hn w h
theorem vH(s d c b ke f:Int)(a:Option Addr)(n cap:Nat)(F W K:Nat->Int)(t:Int)(g: -1<=t)(j:t<n)(hn:n<=4)(w:E)(h:TS w a n F W K):
  Calls prog 101 #[.agg #[I J s,I J d,I J c,I J b,I J ke,I J f,.slice a n cap],I J t] w fun e w'=>e=.returned (I J (xd b W t))/\N w.1.size w w':=by
 by_cases e:t= -1
 ·subst e;simp only[xd,if_pos];exact zek s d c b ke f a n cap w
 ·obtain⟨i,rfl⟩:=Int.eq_ofNat_of_zero_le (show 0<=t by omega)
  simp only[xd,if_neg e,Int.toNat_natCast];exact zcE s d c b ke f a n cap F W K i (by omega) hn w h
theorem vB(a:Option Addr)(n cap:Nat)(F W K:Nat->Int)(c:Nat)(z:c<n)(hn:n<=4)(s:∀i,i<n-> -1<=F i/\F i<n)(w:E)(h:TS w a n F W K):
  Calls prog 207 #[.slice a n cap,I J c] w fun e w'=>e=.returned (.bool (down F n c))/\w'=w:=by
 obtain⟨b,D,rfl,u,v⟩:=h (by omega)
 go_enter func207,ntmps207
 go_wp2
 go_loop [1,7] (fun x y=>∃(t k:Nat),t<n/\k<=n/\x=I J t/\y=I J k/\down F n c=down F (n-k) t) (fun _ y=>n-(intOf y).toNat)
 case atStart=>exact⟨c,0,z,Nat.zero_le _,rfl,rfl,rfl⟩
 case round=>
  obtain⟨t,k,q,L,rfl,rfl,l⟩:=hrel
  have f:Hid (down F n c=down F (n-k) t):=l
  clear l
  obtain⟨G,_,_⟩:=v t q
  have H:=s t q
  have C:(t:Int)<n:=by omega
  by_cases B:k<n
  ·have p:down F (n-k) t=(F t== -1||down F (n-(k+1)) (F t)):=by
    rw[show n-k=(n-(k+1))+1 by omega,down];simp
   have d:=p;clear p
   have d:Hid (down F n c=(F t== -1||down F (n-(k+1)) (F t))):=by rw[f.out];exact d
   by_cases e:F t= -1
   ·have r:Hid (down F n c=true):=by rw[d.out,e];simp[Hid]
    clear d f
    have j:(F t== -1)=true:=by simp[e]
    clear e
    go_wp2
    go_ret
    exact⟨zL r.out.symm,rfl⟩
   ·have j:(F t== -1)=false:=by simp[e]
    obtain⟨m,o⟩:=Int.eq_ofNat_of_zero_le (show 0<=F t by omega)
    have g:Hid (F t=m):=o
    clear o e
    go_wp2
    go_round
    case rel=>exact⟨m,k+1,by have:=g.out;omega,by omega,by rw[g.out],by go_num,by rw[d.out,j,g.out];simp⟩
    case measure=>simp[intOf];omega
  ·go_wp2
   go_ret
   exact⟨zL (by rw[f.out,show n-k=0 by omega];rfl),rfl⟩
theorem X6(s B z G ke D:Int)(a:Option Addr)(n cap:Nat)(F W K:Nat->Int)(c:Nat)(L:c<n)(hn:n<=4)(w:E)(h:TS w a n F W K):
  Calls prog 100 #[.agg #[I J s,I J B,I J z,I J G,I J ke,I J D,.slice a n cap],I J c] w fun e w'=>e=.returned (.bool (xc n F (n+1) c))/\N w.1.size w w':=by
 obtain⟨b,C,rfl,q,r⟩:=h (by omega)
 go_enter func100,ntmps100
 go_wp2
 go_loop [1,5] (fun x y=>∃(t:Int) (k:Nat),k<=n+1/\x=I J t/\y=I J k/\xc n F (n+1) c=xc n F (n+1-k) t) (fun _ y=>n+1-(intOf y).toNat)
 case atStart=>exact⟨c,0,Nat.zero_le _,rfl,rfl,rfl⟩
 case round=>
  obtain⟨t,k,M,rfl,rfl,l⟩:=hrel
  have i:Hid (xc n F (n+1) c=xc n F (n+1-k) t):=l
  clear l
  by_cases u:k<=n
  ·have p:xc n F (n+1-k) t=(t== -1||(!(decide (t< -1)||decide ((n:Int)<=t))&&xc n F (n+1-(k+1)) (F t.toNat))):=by
    rw[show n+1-k=(n+1-(k+1))+1 by omega,xc]
   have d:Hid (xc n F (n+1) c=(t== -1||(!(decide (t< -1)||decide ((n:Int)<=t))&&xc n F (n+1-(k+1)) (F t.toNat)))):=by rw[i.out];exact p
   clear p i
   by_cases e:t= -1
   ·subst e
    have f:Hid (xc n F (n+1) c=true):=by rw[d.out];simp[Hid]
    clear d
    go_wp2
    go_ret
    exact⟨zL f.out.symm,(Z _ _).alloc (X _) _⟩
   ·have j:(t== -1)=false:=by simp[e]
    by_cases o:t< -1
    ·have f:Hid (xc n F (n+1) c=false):=by rw[d.out,j];simp[Hid,o]
     clear d e
     go_wp2
     go_ret
     exact⟨zL f.out.symm,(Z _ _).alloc (X _) _⟩
    ·by_cases g:(n:Int)<=t
     ·have f:Hid (xc n F (n+1) c=false):=by rw[d.out,j];simp[Hid,g]
      clear d e
      go_wp2
      go_ret
      exact⟨zL f.out.symm,(Z _ _).alloc (X _) _⟩
     ·obtain⟨m,rfl⟩:=Int.eq_ofNat_of_zero_le (show 0<=t by omega)
      have v:(m:Int)<n:=by omega
      obtain⟨H,_,_⟩:=r m (by omega)
      have f:Hid (xc n F (n+1) c=xc n F (n+1-(k+1)) (F m)):=by rw[d.out,j];simp[Hid,o,g]
      clear d e
      go_wp2
      go_round
      case rel=>exact⟨F m,k+1,by omega,rfl,by go_num,f.out⟩
      case measure=>simp[intOf];omega
  ·go_wp2
   go_ret
   exact⟨zL (by rw[i.out,show n+1-k=0 by omega];rfl),(Z _ _).alloc (X _) _⟩
theorem K8(a:Option Addr)(n cap:Nat)(F W K:Nat->Int)(hn:n<=4)(w:E)(h:TS w a n F W K):
  Calls prog 171 #[.slice a n cap] w fun e w'=>e=.returned (.bool (kR n (vS n F W K)))/\N w.1.size w w':=by
 go_enter func171,ntmps171
 go_wp2
 go_loopw [2,4,7] (fun _ _ y wr=>∃(k:Nat),k<=n/\y=I J k/\kR k (vS n F W K)=true/\N w.1.size w wr) (fun _ _ y _=>n-(intOf y).toNat)
 case atStart=>exact⟨0,Nat.zero_le _,rfl,ZR _,Z _ _⟩
 case round=>
  obtain⟨k,x,rfl,o,c⟩:=hrel
  have g:Hid (kR k (vS n F W K)=true):=o
  clear o
  by_cases d:k<n
  ·have m:=h.below c
   obtain⟨b,s,rfl,q,p⟩:=m (by omega)
   obtain⟨t,u,v⟩:=p k d
   have r:(k:Int)<n:=by omega
   clear p h m
   cases i:inB (F k) (-1) ((n:Int)-1)
   ·have f:Hid (kR n (vS n F W K)=false):=xP _ _ k d (by simp[vS,i])
    go_wp2_with(go_at_call 77;refine(xI _ _ _ _).mono ?_;rintro e w' ⟨rfl,rfl⟩)
    go_ret
    exact⟨zL f.out.symm,c.alloc c.size _⟩
   ·cases j:inB (W k) 1 1000
    ·have f:Hid (kR n (vS n F W K)=false):=xP _ _ k d (by simp[vS,j])
     go_wp2_with(go_at_call 77;refine(xI _ _ _ _).mono ?_;rintro e w' ⟨rfl,rfl⟩)
     go_ret
     exact⟨zL f.out.symm,c.alloc c.size _⟩
    ·cases l:inB (K k) 0 1000
     ·have f:Hid (kR n (vS n F W K)=false):=xP _ _ k d (by simp[vS,l])
      go_wp2_with(go_at_call 77;refine(xI _ _ _ _).mono ?_;rintro e w' ⟨rfl,rfl⟩)
      go_ret
      exact⟨zL f.out.symm,c.alloc c.size _⟩
     ·have f:Hid (kR (k+1) (vS n F W K)=true):=by
       show _=_
       rw[ZQ,g.out];simp[vS,i,j,l]
      go_wp2_with(go_at_call 77;refine(xI _ _ _ _).mono ?_;rintro e w' ⟨rfl,rfl⟩)
      go_roundw
      case rel=>exact⟨k+1,by omega,by go_num,f.out,c.alloc c.size _⟩
      case measure=>simp[intOf];omega
  ·have e:k=n:=by omega
   subst e
   go_wp2
   go_ret
   exact⟨zL g.out.symm,c⟩
structure Cf where
 s:Int
 le:Int
 la:Int
 wi:Int
 ke:Int
 qu:Int
 n:Nat
 F:Nat->Int
 W:Nat->Int
 K:Nat->Int
structure Nm where
 se:Int
 tm:Int
 val:Int
structure Sg where
 t:Int
 se:Int
 we:Int
deriving DecidableEq
structure Cl where
 cnt:Int
 sum:Int
 mn:Int
 mx:Int
structure Tk where
 kind:Int
 s:Sg
 si:Int
 tc:Int
 rest:Int
 ep:Int
 num:Int
 slot:Int
 till:Int
structure RM where
 c:Cf
 now:Int
 nu:List Nm
 pub:List Sg
 gone:List Sg
 tg:List Tk
 epoch:Int
 picks:Int
def nmV(x:Nm):List Y:=[I J x.se,I J x.tm,I i32 x.val]
def sgV(x:Sg):List Y:=[I J x.t,I J x.se,I J x.we]
def tkV(x:Tk):List Y:=[I J x.kind,I J x.s.t,I J x.s.se,I J x.s.we,I J x.si,I J x.tc,I J x.rest,I J x.ep,I J x.num,I J x.slot,I J x.till]
section
variable {α:Type}
theorem zbO{f:α->List Y}{k:Nat}(b:∀a,(f a).length=k):∀l:List α,(l.flatMap f).length=l.length*k
 |[]=>by simp
 |a::l=>by rw[List.flatMap_cons,List.length_append,b,zbO b l,List.length_cons,Nat.add_mul];omega
theorem ql{f:α->List Y}{k:Nat}(c:∀a,(f a).length=k):∀(l:List α) (i:Nat) (a:α) (j:Nat),l[i]?=O a->j<k->(l.flatMap f)[i*k+j]?=(f a)[j]?
 |[],i,a,j,h,_=>by simp at h
 |b::l,0,a,j,h,d=>by
  simp at h;subst h
  rw[List.flatMap_cons,List.getElem?_append_left (by rw[c];omega)];simp
 |b::l,i+1,a,j,h,d=>by
  have:=ql c l i a j (by simpa using h) d
  rw[List.flatMap_cons,List.getElem?_append_right (by rw[c,Nat.add_mul];omega),c,<-this]
  congr 1;rw[Nat.add_mul];omega
theorem vZ{f:α->List Y}(c:∀a,∀v∈f a,v.oneCell'=true)(l:List α):∀v∈l.flatMap f,v.oneCell'=true:=fun v hv=>by
 obtain⟨a,_,b⟩:=List.mem_flatMap.1 hv
 exact c a v b
theorem Y6(f:α->List Y)(l:List α)(a:α):(l++[a]).flatMap f=l.flatMap f++f a:=by simp
end
theorem zaZ(x:Nm):(nmV x).length=3:=rfl
theorem zbm(x:Sg):(sgV x).length=3:=rfl
theorem qG(x:Tk):(tkV x).length=11:=rfl
theorem zfA(x:Nm):∀v∈nmV x,v.oneCell'=true:=fun v h=>by
 simp only[nmV,A,List.not_mem_nil,or_false]at h
 rcases h with rfl|rfl|rfl<;>rfl
theorem VM(x:Sg):∀v∈sgV x,v.oneCell'=true:=fun v h=>by
 simp only[sgV,A,List.not_mem_nil,or_false]at h
 rcases h with rfl|rfl|rfl<;>rfl
theorem XS(x:Tk):∀v∈tkV x,v.oneCell'=true:=fun v h=>by
 simp only[tkV,A,List.not_mem_nil,or_false]at h
 rcases h with rfl|rfl|rfl|rfl|rfl|rfl|rfl|rfl|rfl|rfl|rfl<;>rfl
structure Cf.ok(c:Cf):Prop where
 n1:1<=c.n
 n4:c.n<=4
 wi1:1<=c.wi
 wi2:c.wi<=1000
 W:∀i,i<c.n->1<=c.W i/\c.W i<=1000
 F:∀i,i<c.n-> -1<=c.F i/\c.F i<c.n
 K:∀i,i<c.n->0<=c.K i/\c.K i<=1000
 ke:0<=c.ke/\c.ke<=1000
 la:0<=c.la/\c.la<=100
 qu:1<=c.qu/\c.qu<=400
 sl:1<=c.s/\c.s<=4
 le:1<=c.le/\c.le<=100
def Cf.wh(c:Cf)(t:Int):Int:=xd c.wi c.W t
theorem Cf.ok.wh{c:Cf}(h:c.ok){t:Int}(a: -1<=t)(b:t<c.n):1<=c.wh t/\c.wh t<=1000:=by
 unfold Cf.wh xd
 split
 ·exact⟨h.wi1,h.wi2⟩
 ·exact h.W _ (by omega)
def zI(c:Cf)(t:Int)(x:Nm):Sg:=⟨t,x.se,x.tm/c.wh t⟩
def Zu(l:List Sg)(s:Sg):List Sg:=if s∈l then l else l++[s]
def xL(c:Cf)(t:Int)(nu:List Nm)(l:List Sg):List Sg:=nu.foldl (fun l x=>Zu l (zI c t x)) l
def yI(c:Cf)(nu:List Nm)(k:Nat):List Sg:=(List.range k).foldl (fun l (j:Nat)=>xL c ((j:Int)-1) nu l) []
def zS(c:Cf)(nu:List Nm):List Sg:=yI c nu (c.n+1)
theorem jh(c:Cf)(nu:List Nm)(k:Nat):yI c nu (k+1)=xL c ((k:Int)-1) nu (yI c nu k):=by
 simp[yI,List.range_succ]
theorem VH(c:Cf)(t:Int)(nu:List Nm)(l:List Sg)(i:Nat)(x:Nm)(h:nu[i]?=O x):xL c t (nu.take (i+1)) l=Zu (xL c t (nu.take i) l) (zI c t x):=by
 obtain⟨a,b⟩:=List.getElem?_eq_some_iff.1 h
 rw[List.take_succ_eq_append_getElem a,b];simp[xL]
theorem zeo(l:List Sg)(s:Sg):(Zu l s).length<=l.length+1:=by unfold Zu;split<;>simp
theorem jL(c:Cf)(t:Int):∀(nu:List Nm) (l:List Sg),(xL c t nu l).length<=l.length+nu.length
 |[],l=>by simp[xL]
 |x::r,l=>by
  have:=jL c t r (Zu l (zI c t x));have a:=zeo l (zI c t x)
  simp only[xL,List.foldl_cons,List.length_cons]at*;omega
theorem XR(c:Cf)(nu:List Nm):∀k,(yI c nu k).length<=k*nu.length
 |0=>by simp[yI]
 |k+1=>by
  have:=XR c nu k;have a:=jL c ((k:Int)-1) nu (yI c nu k)
  rw[jh,Nat.add_mul];omega
theorem zfs{l:List Sg}{s x:Sg}:x∈Zu l s↔x∈l\/x=s:=by
 unfold Zu;split
 ·rename_i h;constructor
  ·exact .inl
  ·rintro(a|rfl)<;>assumption
 ·simp
theorem Q6(c:Cf)(t:Int)(s:Sg):∀(nu:List Nm) (l:List Sg),s∈xL c t nu l↔s∈l\/∃x∈nu,s=zI c t x
 |[],l=>by simp[xL]
 |x::r,l=>by
  have:=Q6 c t s r (Zu l (zI c t x))
  simp only[xL,List.foldl_cons]at this ⊢
  rw[this,zfs];simp only[A,exists_eq_or_imp]
  constructor
  ·rintro((h|h)|h)
   ·exact .inl h
   ·exact .inr (.inl h)
   ·exact .inr (.inr h)
  ·rintro(h|h|h)
   ·exact .inl (.inl h)
   ·exact .inl (.inr h)
   ·exact .inr h
theorem Ks(c:Cf)(nu:List Nm)(s:Sg):∀k,s∈yI c nu k↔∃j,j<k/\∃x∈nu,s=zI c ((j:Int)-1) x
 |0=>by simp[yI]
 |k+1=>by
  rw[jh,Q6,Ks c nu s k]
  constructor
  ·rintro(⟨j,a,h⟩|h)
   ·exact⟨j,by omega,h⟩
   ·exact⟨k,by omega,h⟩
  ·rintro⟨j,a,h⟩
   by_cases e:j=k
   ·subst e;exact .inr h
   ·exact .inl ⟨j,by omega,h⟩
theorem yT{c:Cf}{nu:List Nm}{s:Sg}:s∈zS c nu↔ -1<=s.t/\s.t<c.n/\∃x∈nu,s=zI c s.t x:=by
 unfold zS;rw[Ks]
 constructor
 ·rintro⟨j,e,x,a,rfl⟩
  refine⟨?_,?_,x,a,rfl⟩<;>simp only[zI]<;>omega
 ·rintro⟨b,d,x,a,h⟩
  refine⟨(s.t+1).toNat,by omega,x,a,?_⟩
  have:(((s.t+1).toNat:Nat):Int)-1=s.t:=by omega
  rw[this];exact h
theorem zav{l:List Sg}{s:Sg}(h:l.Nodup):(Zu l s).Nodup:=by
 unfold Zu;split
 ·exact h
 ·rename_i hn;rw[List.nodup_append]
  exact⟨h,by simp,fun a d b c=>by simp at c;subst c;intro e;subst e;exact hn d⟩
theorem Zr(c:Cf)(t:Int):∀(nu:List Nm) (l:List Sg),l.Nodup->(xL c t nu l).Nodup
 |[],l,h=>by simpa[xL]using h
 |x::r,l,h=>by
  have:=Zr c t r (Zu l (zI c t x)) (zav h)
  simpa only[xL,List.foldl_cons]using this
theorem Qf(c:Cf)(nu:List Nm):∀k,(yI c nu k).Nodup
 |0=>by simp[yI]
 |k+1=>by rw[jh];exact Zr c _ nu _ (Qf c nu k)
theorem Qe(c:Cf)(nu:List Nm):(zS c nu).Nodup:=Qf c nu _
def jA(a:Cl)(v:Int):Cl:=⟨a.cnt+1,a.sum+v,if a.cnt=0\/v<a.mn then v else a.mn,if a.cnt=0\/a.mx<v then v else a.mx⟩
def qB(c:Cf)(s:Sg)(a:Cl)(x:Nm):Cl:=if zI c s.t x=s then jA a x.val else a
def xn(c:Cf)(s:Sg)(nu:List Nm):Cl:=nu.foldl (qB c s) ⟨0,0,0,0⟩
theorem QN(c:Cf)(s:Sg)(nu:List Nm)(i:Nat)(x:Nm)(h:nu[i]?=O x):xn c s (nu.take (i+1))=qB c s (xn c s (nu.take i)) x:=by
 obtain⟨a,b⟩:=List.getElem?_eq_some_iff.1 h
 rw[List.take_succ_eq_append_getElem a,b];simp[xn]
def jP(c:Cf)(nu:List Nm)(rc:List Sg)(s:Sg):Int:=if s∈rc then 0 else if s.t= -1 then(xn c s nu).cnt else 2
def vm(c:Cf)(nu:List Nm)(rc l:List Sg):Int:=l.foldl (fun n s=>n+jP c nu rc s) 0
def RM.used(m:RM):Int:=vm m.c m.nu m.gone (zS m.c m.nu)
theorem zbw(c:Cf)(nu:List Nm)(rc l:List Sg)(i:Nat)(s:Sg)(h:l[i]?=O s):vm c nu rc (l.take (i+1))=vm c nu rc (l.take i)+jP c nu rc s:=by
 obtain⟨a,b⟩:=List.getElem?_eq_some_iff.1 h
 rw[List.take_succ_eq_append_getElem a,b];simp[vm]
def Nm.ok(x:Nm):Prop:= -2147483648<=x.val/\x.val<=2147483647/\0<=x.tm/\x.tm<=100000/\0<=x.se/\x.se<4
theorem ZW(c:Cf)(s:Sg):∀(nu:List Nm) (a:Cl) (k:Nat),(∀x∈nu,x.ok)->(0<=a.cnt/\a.cnt<=k/\ -(2147483648*(k:Int))<=a.sum/\a.sum<=2147483648*(k:Int))->
  0<=(nu.foldl (qB c s) a).cnt/\(nu.foldl (qB c s) a).cnt<=k+nu.length/\ -(2147483648*((k:Int)+nu.length))<=(nu.foldl (qB c s) a).sum/\(nu.foldl (qB c s) a).sum<=2147483648*((k:Int)+nu.length)
 |[],a,k,_,h=>by simp;omega
 |x::r,a,k,b,h=>by
  have d:=b x (by simp)
  unfold Nm.ok at d
  have:=ZW c s r (qB c s a x) (k+1) (fun y e=>b y (by simp[e])) (by
   unfold qB;split
   ·simp only[jA];omega
   ·omega)
  rw[List.foldl_cons,List.length_cons]
  omega
theorem kb{c:Cf}{s:Sg}{nu:List Nm}(h:∀x∈nu,x.ok):0<=(xn c s nu).cnt/\(xn c s nu).cnt<=nu.length/\ -(2147483648*(nu.length:Int))<=(xn c s nu).sum/\(xn c s nu).sum<=2147483648*(nu.length:Int):=by
 have:=ZW c s nu ⟨0,0,0,0⟩ 0 h (by simp)
 simpa[xn]using this
theorem Xq{c:Cf}{nu:List Nm}{rc:List Sg}(h:∀x∈nu,x.ok):∀(l:List Sg) (u:Int),0<=u->0<=l.foldl (fun n s=>n+jP c nu rc s) u/\l.foldl (fun n s=>n+jP c nu rc s) u<=u+l.length*(nu.length+2)
 |[],u,a=>by simp;exact a
 |s::r,u,a=>by
  have d:=kb (c:=c) (s:=s) h
  have b:0<=jP c nu rc s/\jP c nu rc s<=nu.length+2:=by
   unfold jP
   split
   ·omega
   ·split<;>omega
  have:=Xq (c:=c) (rc:=rc) h r (u+jP c nu rc s) (by omega)
  have e:((s::r).length:Int)*(nu.length+2)=r.length*(nu.length+2)+(nu.length+2):=by
   rw[List.length_cons];push_cast;rw[Int.add_mul];omega
  rw[List.foldl_cons,e];omega
theorem zaj{c:Cf}{nu:List Nm}{rc l:List Sg}(h:∀x∈nu,x.ok):0<=vm c nu rc l/\vm c nu rc l<=l.length*(nu.length+2):=by
 have:=Xq (c:=c) (rc:=rc) h l 0 (by omega)
 unfold vm;omega
end Go.Proofs.YtpbimdkclnekeaaGreat
