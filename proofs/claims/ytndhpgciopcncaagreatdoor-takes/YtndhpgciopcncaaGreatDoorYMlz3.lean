import Derived.Test.YtndhpgciopcncaaGreatDoorYPst0
import Derived.Test.YtndhpgciopcncaaGreatDoorYMlz4
import Derived.Deep.RegionHeld3
import Derived.Test.YtndhpgciopcncaaGreatDoorYMod2
import Derived.Test.YtndhpgciopcncaaGreatDoorYMlz5
import Derived.Test.YtndhpgciopcncaaGreatDoorYOrd3
import Derived.Test.YtndhpgciopcncaaGreatDoorYRefU
import Derived.Maps.OwnIn
import Derived.OwnWalkIn
import Derived.Shelf.SlLaysF0
import Derived.Shelf.SlGeneric
import Derived.Test.YtndhpgciopcncaaGreatDoorProg
import Derived.Shelf.SlSortCmp.WholeK
import Derived.Shelf.SlSortCmp.NoneTotal
open Go.Value renaming int → I
open Go.IntKind renaming i64 → J
open Option renaming none → O
open Option renaming some → E
open Go renaming World → Q
open Go.RowKit renaming Below → Y
open Go.RowKit.Below renaming refl → D
open Nat renaming lt_of_lt_of_le → P
open Nat renaming le_refl → H
open Go.IntKind (i32)
set_option linter.unusedVariables false
set_option maxRecDepth 20000
set_option maxHeartbeats 8000000
open Go.Proofs.Tryz
namespace Go.Proofs.YtndhpgciopcncaaGreatDoor
open Go.ChangeMaps (setBlock)
open Go.RowKit Go.Maps Go.Shelf
theorem zcF{dn:Bool}{w:Q}{i:Ids}{c:Cf}{ep:Int}{m:MS}(h:xP dn w i c ep m)(n:Int)(hn:n<1\/1000<n\/100000<m.now+n)(a:0<=m.now/\m.now<=100000):
  Calls prog 26 #[.pointer (E ⟨i.x,0,O⟩),I J n] w fun e w'=>e=.returned (I J 5)/\Y w.1.size w w':=by
 obtain⟨-,-,-,-,-,-,-,-,o,-,-⟩:=h.cells
 have l:=h.lt
 obtain⟨j,k⟩:=a
 clear h
 by_cases b:n<1
 ·clear hn
  go_enter func26,ntmps26
  go_wp2_with fail
  go_ret
  exact⟨rfl,D _ _⟩
 ·have d:decide (n<1)=false:=by simpa using b
  by_cases f:1000<n
  ·clear hn
   go_enter func26,ntmps26
   go_wp2_with fail
   go_ret
   exact⟨rfl,D _ _⟩
  ·have g:decide (1000<n)=false:=by simpa using f
   have p:100000<m.now+n:=by omega
   clear hn
   go_enter func26,ntmps26
   go_wp2_with fail
   go_ret
   exact⟨rfl,D _ _⟩
def zaW(m':MS)(q a:JM)(now:Int)(xs:List SX):Prop:=
 (KN (JI q.S (xT now xs)) q.st=false/\a=ZB q (xT now xs))\/(KN (JI q.S (xT now xs)) q.st=true/\∃b:List SX,b.Perm (Xq m'.L m'.Gl)/\a=zkC (ZB q (xT now xs)) (xT now b))
theorem Ko{w':Q}{i:Ids}{c:Cf}{ep:Int}{m:MS}{q:JM}{now:Int}{xs:List SX}{e:Ending}(h:vP w' i c ep m q now xs e)(f:Z7 q.S (xT now xs)=false):e=.returned (I J 13)/\zR w' i c ep m {ZB q (xT now xs)with dn:=true}:=by
 rcases h with⟨_,b,d⟩|⟨a,_⟩
 ·exact⟨b,d⟩
 ·rw[f]at a;cases a
theorem Zb{w':Q}{i:Ids}{c:Cf}{ep:Int}{m:MS}{q:JM}{now:Int}{xs:List SX}{e:Ending}(h:vP w' i c ep m q now xs e)(k:Z7 q.S (xT now xs)=true):e=.returned (I J 0)/\∃g,zaW (m.took now xs) q g now xs/\zR w' i c ep (m.took now xs) g:=by
 rcases h with⟨d,_⟩|⟨_,f,⟨a,b⟩|⟨a,l,b,j⟩⟩
 ·rw[k]at d;cases d
 ·exact⟨f,_,.inl ⟨a,rfl⟩,b⟩
 ·exact⟨f,_,.inr ⟨a,l,b,rfl⟩,j⟩
def zkq(w':Q)(i:Ids)(c:Cf)(ep:Int)(m:MS)(q:JM)(n:Int)(e:Ending):Prop:=
 (Z7 q.S (xT (m.now+n) [])=false/\e=.returned (I J 13)/\zR w' i c ep m {ZB q (xT (m.now+n) [])with dn:=true})
 \/(Z7 q.S (xT (m.now+n) [])=true/\e=.returned (I J 0)/\∃f d a b,zaW (m.took (m.now+n) []) q f (m.now+n) []/\zR w' i c ep {m with now:=m.now+n,TL:=b,QL:=a} f/\JF (m.now+n) m.TL m.QL d a/\(∀p∈a,m.now+n<p.2.til)/\qD c {m with now:=m.now+n,TL:=d,QL:=a} b)
theorem zhn(w:Q)(base:Nat):jG w base (.slice O 0 0) []:=by
 unfold jG;exact World.ownsRow_nil _ _ _ _
theorem zjZ{w:Q}{i:Ids}{c:Cf}{ep:Int}{m:MS}{q:JM}(h:zR w i c ep m q)(hc:c.ok)(n:Int)(hn:1<=n/\n<=1000)(a1:0<=m.now/\m.now+n<=100000)(hI:zhD 1000000 100000 m.TL m.QL)(hL:∀p∈m.L,inR c p.1)(a0:m.L.length<=2000)(a3:∀r QL',JF (m.now+n) m.TL m.QL r QL'->r.length<=50000)
  (t:∀x∈Xq m.L m.Gl,okX x) (ag:m.Gl.length<=49000000) (N:Nat) (hN:N<=900000000000) (hd:DOk q.S N) (ah:0<=q.st/\q.st<=1099511627776):
  Calls prog 26 #[.pointer (E ⟨i.x,0,O⟩),I J n] w fun e w'=>zkq w' i c ep m q n e/\Kx i w w':=by
 obtain⟨-,-,-,-,-,-,-,-,c8,-,-⟩:=h.own.cells
 have aq:=h.lt
 obtain⟨am,an⟩:=hn
 obtain⟨ao,a4⟩:=a1
 have aj:decide (n<1)=false:=by simp;omega
 have ak:decide (1000<n)=false:=by simp;omega
 have al:decide (100000<m.now+n)=false:=by simp;omega
 have o:=fun W (u:Y w.1.size w W)=>QQ (h.later u) (m.now+n) (by unfold xR;omega) [] (by simp) t (by simp) (by omega) ag N hN hd ah 0 (.slice O 0 0) (zhn _ _)
 have ai:=zd h.dlt
 clear t hd
 cases d:Z7 q.S (xT (m.now+n) [])
 ·have f:=fun W (u:Y w.1.size w W)=>zd ((o W u).mono (fun e T v=>(⟨(Ko v.1 d).1,(Ko v.1 d).2,v.2⟩:e=.returned (I J 13)/\zR T i c ep m {ZB q (xT (m.now+n) [])with dn:=true}/\Kx i W T)))
  have l:=f w (D _ _)
  clear h o f hI hL a3
  go_enter func26,ntmps26
  go_wp2_with fail
  refine(ud l).mono ?_
  rintro e T ⟨rfl,g,K⟩
  have HM:=zd g
  have HK:=zd K
  clear g K
  go_wp2_with fail
  go_ret
  exact⟨.inl ⟨d,rfl,ud HM⟩,ud HK⟩
 ·have f:=fun W (u:Y w.1.size w W)=>zd ((o W u).mono (fun e T v=>(⟨(Zb v.1 d).1,(Zb v.1 d).2,v.2⟩:e=.returned (I J 0)/\(∃q',zaW (m.took (m.now+n) []) q q' (m.now+n) []/\zR T i c ep (m.took (m.now+n) []) q')/\Kx i W T)))
  have l:=f w (D _ _)
  clear h o f
  go_enter func26,ntmps26
  go_wp2_with fail
  refine(ud l).mono ?_
  rintro e T ⟨rfl,⟨q',hA,U⟩,K⟩
  have g:zR T i c ep {m with now:=m.now+n} q':=U
  obtain⟨-,-,-,-,-,-,-,-,d8,-,C⟩:=g.own.cells
  dsimp only at d8
  have a5:=g.lt
  have HE:=fun W (u:Y T.1.size T W)=>zd (zcp ((g.later u).board) (m.now+n) ⟨by omega,a4⟩ hI)
  have z:=HE T (D _ _)
  have j:=HE T.drew (D _ _).drew
  have y:∀k,(k=i.tb\/k=i.qb)->¬i.x=k:=fun k e e'=>by
   rcases e with e|e
   ·exact g.x_board k (.inr (.inl e)) e'.symm
   ·exact g.x_board k (.inr (.inr e)) e'.symm
  have B:Hid (¬(i.x=i.tb\/i.x=i.qb)):=fun e=>by
   rcases e with e|e
   ·exact y i.tb (.inl rfl) e
   ·exact y i.qb (.inr rfl) e
  have HM:=zd g
  have HK:=zd K
  have HA:=zd hA
  clear U g K hA HE y l
  go_wp2_with fail
  go_region_held3 (fun w'=>w'.cell? ⟨i.x,8,O⟩=E (I J (m.now+n))/\w'.cell? ⟨i.x,10,O⟩=E (.pointer (E ⟨i.b,0,O⟩))) (go_keep) (first
   |(go_at_call 59;(first|(with_reducible refine(ud z).mono ?_)|(with_reducible refine(ud j).mono ?_));rintro e V1 ⟨rfl,ae,ad,F,a,G,a2⟩;have hK1:zk (fun k=>k=i.tb\/k=i.qb) T V1:=⟨a.os,a.tape,a.output,a.size,a.block⟩;clear a;have g8:=(zF (i:=8) hK1 (ud B) a5).trans d8;have af:=(zF (i:=10) hK1 (ud B) a5).trans C;have a6:=zd F;have a7:=zd hK1;have j:=zd G;have ac:=zd a2;clear F hK1 G a2 z))
  all_goals(
   have Z:zk (ZZ i.b i.tb i.qb) T V1:=(ud a7).mono (fun k _ e=> .inr e)
   obtain⟨s,M⟩:=(ud HM).putBoard (ud a6) Z
   have ab:=zd (zbG s.own hc hL a0 ⟨by show 0<=m.now+n;omega,a4⟩ (a3 _ _ (ud j)))
   have a9:=zd s
   have a8:=zd ((ud HK).trans M)
   have ap:=s.lt
   clear Z s M d8 C g8 af
   go_wp2_with(first|(go_at_call 55;refine(ud ab).mono ?_;rintro e V3 ⟨rfl,r,V,R,X⟩;have A:=zd ((ud a9).put V R (fun k e=> .inr (.inr (.inr (.inl e)))));have aa:=zd X;clear V R X))
   go_ret
   exact⟨.inr ⟨d,rfl,q',ae,ad,r,ud HA,(ud A).1,ud j,ud ac,ud aa⟩,(ud a8).trans (ud A).2⟩)
theorem VG{w W:Q}{i:Ids}{c:Cf}{ep:Int}{m:MS}{q:JM}(h:zR w i c ep m q)(b:Y w.1.size w W):∀k,zT W i k->zT w i k:=by
 rintro k (e|e)
 ·exact .inl e
 ·right
  have a:fsB W i.d=fsB w i.d:=by unfold fsB;rw[b.cell (p:=⟨i.d,0,O⟩) h.dlt]
  rw[<-a];exact e
theorem zgj{w W:Q}{i:Ids}{c:Cf}{ep:Int}{m:MS}{q:JM}(h:zR w i c ep m q)(a:Y w.1.size w W):¬zT W i w.1.size:=fun e=>absurd (h.foot_lt _ (VG h a _ e)) (Nat.lt_irrefl _)
def ms0:MS:=⟨0,[],[],0,[],[]⟩
inductive JG (c:Cf) (ep:Int):MS->List Nm->ByteArray->Prop
 |start (m:MS) (ns:List Nm) (txt:ByteArray) (hf:c.fits) (hs:SOk c ep m ns.length) (ho:∀x∈Xq m.L m.Gl,okX x) (h1:ep=1->m=ms0/\ns=[]/\txt=xT 0 []++nl):JG c ep m ns txt
 |laid (m:MS) (ns:List Nm) (txt:ByteArray) (m':MS) (ns':List Nm) (xs:List SX) (h:JG c ep m ns txt) (ha:Yp c ep m ns m' ns') (hx:∀x∈xs,okX x) (hL:m'.L=(kA (m.Gl,m.L) xs).2) (hG:m'.Gl=(kA (m.Gl,m.L) xs).1):JG c ep m' ns' (txt++(xT m'.now xs++nl))
 |quiet (m:MS) (ns:List Nm) (txt:ByteArray) (m':MS) (ns':List Nm) (h:JG c ep m ns txt) (ha:Yp c ep m ns m' ns') (hn:m'.now=m.now) (hL:m'.L=m.L) (hG:m'.Gl=m.Gl):JG c ep m' ns' txt
 |anew (m:MS) (ns:List Nm) (txt:ByteArray) (ys:List SX) (h:JG c ep m ns txt) (hp:ys.Perm (Xq m.L m.Gl)):JG c ep m ns (xT m.now ys++nl)
theorem KV:∀(xs:List SX) (G:List (Sg×Unit)) (L:LV),(∀x∈Xq L G,okX x)->(∀x∈xs,okX x)->∀x∈Xq (kA (G,L) xs).2 (kA (G,L) xs).1,okX x
 |[],G,L,h,_=>h
 |y::xs,G,L,h,d=>by
  have f:=d y (by simp)
  have b:∀x∈Xq (QY (G,L) y).2 (QY (G,L) y).1,okX x:=fun x a=>by
   unfold QY Xq at a
   split at a
   ·rcases List.mem_append.1 a with a|a
    ·exact h x (List.mem_append_left _ (zL.1 a).1)
    ·obtain⟨g,c,rfl⟩:=List.mem_map.1 a
     rcases yc c with rfl|⟨c,_⟩
     ·exact⟨f.key,by show xR 4;unfold xR;omega,by show xR 0;unfold xR;omega,by show xR 0;unfold xR;omega,by show(-2147483648:Int)<=0/\(0:Int)<=2147483647;omega,by show(-2147483648:Int)<=0/\(0:Int)<=2147483647;omega⟩
     ·exact h _ (List.mem_append_right _ (List.mem_map.2 ⟨g,c,rfl⟩))
   ·rcases List.mem_append.1 a with a|a
    ·rcases xS a with rfl|⟨a,_⟩
     ·exact f
     ·exact h x (List.mem_append_left _ a)
    ·exact h x (List.mem_append_right _ a)
  have e:kA (G,L) (y::xs)=kA ((QY (G,L) y).1,(QY (G,L) y).2) xs:=rfl
  rw[e]
  exact KV xs _ _ b (fun x a=>d x (by simp[a]))
section
variable {c:Cf} {ep:Int} {m:MS} {ns:List Nm} {txt:ByteArray}
theorem JG.fits(h:JG c ep m ns txt):c.fits:=by
 induction h with
 |start m ns txt g l j i=>exact g
 |laid m ns txt m' b xs h f n e d a=>exact a
 |quiet m ns txt m' b h f hn e d a=>exact a
 |anew m ns txt o h k a=>exact a
theorem JG.sok(h:JG c ep m ns txt)(f:c.ok):SOk c ep m ns.length:=by
 have d:=h.fits
 induction h with
 |start m ns txt d j l k=>exact j
 |laid m ns txt m' e xs h b o i g a=>exact b.ok f d a
 |quiet m ns txt m' e h b hn i g a=>exact b.ok f d a
 |anew m ns txt p h n a=>exact a
theorem JG.okA(h:JG c ep m ns txt):∀x∈Xq m.L m.Gl,okX x:=by
 induction h with
 |start m ns txt k n g j=>exact g
 |laid m ns txt m' e xs h f i d b a=>rw[d,b];exact KV xs _ _ a i
 |quiet m ns txt m' e h f hn d b a=>rw[d,b];exact a
 |anew m ns txt o h l a=>exact a
end
structure Qd(w:Q)(i:Ids)(c:Cf)(ep:Int)(m:MS)(q:JM)(txt:ByteArray)(ns:List Nm):Prop where
 at_:zR w i c ep m q
 up:q.dn=false
 dsk:q.S=jS ep.toNat txt
 e1:1<=ep/\ep<=1000000000
 st:0<=q.st/\q.st<=100000000000
 tx:(txt.size:Int)<=2*q.st+4096
 hist:JG c ep m ns txt
def zB(w:Q)(i:Ids)(c:Cf)(ep:Int)(m:MS):Prop:=∃q txt ns,Qd w i c ep m q txt ns
section
variable {w w':Q} {i:Ids} {c:Cf} {ep:Int} {m:MS} {q:JM} {txt:ByteArray} {ns:List Nm}
theorem zB.own(h:zB w i c ep m):xP false w i c ep m:=by
 obtain⟨q,txt,ns,h⟩:=h
 have:=h.at_.own
 rw[h.up]at this;exact this
theorem zB.head(h:zB w i c ep m):w.1[i.x]?=E (.cells #[I J c.s,I J c.le,I J c.la,I J c.wi,I J c.ke,I J c.qu,i.tv,I J ep,I J m.now,.pointer (E ⟨i.s,0,O⟩),.pointer (E ⟨i.b,0,O⟩),.pointer (E ⟨i.j,0,O⟩),.bool false] 94 (0,0)):=h.own.head
theorem zB.set(h:zB w i c ep m):xl w i.s c i.tv i.lb i.gb m.Gl m.L:=h.own.set
theorem zB.board(h:zB w i c ep m):zO w i.b c i.tv ep m.num i.tb i.qb m.TL m.QL:=h.own.board
theorem zB.lt(h:zB w i c ep m):i.x<w.1.size:=zb h.head
theorem zB.dlt(h:zB w i c ep m):i.d<w.1.size:=by obtain⟨q,txt,ns,h⟩:=h;exact h.at_.dlt
theorem zB.tab(h:zB w i c ep m):XN w:=by obtain⟨q,txt,ns,h⟩:=h;exact h.at_.tab
theorem zB.ts(h:zB w i c ep m):∃a cap,i.tv=.slice a c.n cap/\TS w a c.n c.F c.W c.K:=h.own.ts
theorem zB.cells(h:zB w i c ep m):w.cell? ⟨i.x,0,O⟩=E (I J c.s)/\w.cell? ⟨i.x,1,O⟩=E (I J c.le)/\w.cell? ⟨i.x,2,O⟩=E (I J c.la)/\w.cell? ⟨i.x,3,O⟩=E (I J c.wi)/\w.cell? ⟨i.x,4,O⟩=E (I J c.ke)/\w.cell? ⟨i.x,5,O⟩=E (I J c.qu)/\w.cell? ⟨i.x,6,O⟩=E i.tv/\w.cell? ⟨i.x,7,O⟩=E (I J ep)/\w.cell? ⟨i.x,8,O⟩=E (I J m.now)/\w.cell? ⟨i.x,9,O⟩=E (.pointer (E ⟨i.s,0,O⟩))/\w.cell? ⟨i.x,10,O⟩=E (.pointer (E ⟨i.b,0,O⟩)):=h.own.cells
theorem zB.kept{f:Nat->Prop}(h:zB w i c ep m)(a:zk f w w')(hn:∀k,zT w i k->¬f k)(b:¬f ZV):zB w' i c ep m:=by
 obtain⟨q,txt,ns,h⟩:=h
 exact⟨q,txt,ns,h.at_.kept a hn b,h.up,h.dsk,h.e1,h.st,h.tx,h.hist⟩
theorem zB.later(h:zB w i c ep m)(b:Y w.1.size w w'):zB w' i c ep m:=h.kept (f:=fun _=>False) (zk.of_below b) (fun _ _ a=>a) (fun a=>a)
theorem zB.foot_lt(h:zB w i c ep m):∀k,zT w i k->k<w.1.size:=by obtain⟨q,txt,ns,h⟩:=h;exact h.at_.foot_lt
theorem zB.tn(h:zB w i c ep m):∀k,zT w i k->k≠ZV:=by obtain⟨q,txt,ns,h⟩:=h;exact h.at_.tn
theorem zB.below(h:zB w i c ep m)(a:Y w.1.size w w'):Kx i w w':=Kx.below a h.dlt
def zgG(t:TypeId):Bool:=t==94||t==155||t==80||t==171||t==216||t==111||t==113
theorem zR.tagQ(h:zR w i c ep m q){k:Nat}{cs:Array Value}{t:TypeId}{v:Nat×Nat}(o:w.1[k]?=E (.cells cs t v))(r:zgG t=false):¬zT w i k:=fun x=>by
 unfold zgG at r
 simp only[Bool.or_eq_false_iff,beq_eq_false_iff_ne]at r
 obtain⟨⟨⟨⟨⟨⟨z,t2⟩,t3⟩,t4⟩,t5⟩,A⟩,B⟩:=r
 obtain⟨fs,s⟩:=h.jrn
 have p:¬XS i k:=fun e=>by
  rcases h.otag k e with⟨l,y,n,f,g⟩|⟨F,C,u⟩
  ·have b:=yy o f
   rcases g with a|a|a|a
   ·exact z (b.trans a)
   ·exact t2 (b.trans a)
   ·exact t3 (b.trans a)
   ·exact t4 (b.trans a)
  ·rw[o]at u;cases u
 have hn:¬vL i.j i.d fs k:=fun e=>by
  obtain⟨l,y,n,f,g⟩:=s.tag k e
  have b:=yy o f
  rcases g with a|a|a
  ·exact t5 (b.trans a)
  ·exact A (b.trans a)
  ·exact B (b.trans a)
 rcases x with(e|e|e|e|e)|e
 ·exact p (.inl e)
 ·exact p (.inr (.inl e))
 ·exact p (.inr (.inr e))
 ·exact hn (.inl e)
 ·exact hn (.inr (.inl e))
 ·exact hn (.inr (.inr (s.fsB▸e)))
theorem zB.tag(h:zB w i c ep m){k:Nat}{cs:Array Value}{t:TypeId}{a:Nat×Nat}(b:w.1[k]?=E (.cells cs t a))(d:zgG t=false):¬zT w i k:=by
 obtain⟨q,txt,ns,h⟩:=h
 exact h.at_.tagQ b d
theorem Qd.dok(h:Qd w i c ep m q txt ns):DOk q.S 400000000000:=by
 rw[h.dsk]
 have a:=h.tx;have b:=h.st;have d:=h.e1
 exact zjy (by omega) (by omega) (by omega)
theorem Qd.lens(h:Qd w i c ep m q txt ns)(a:c.ok):m.L.length<=400/\m.Gl.length<=2000020:=⟨(h.hist.sok a).ok.seg.len400 a,(h.hist.sok a).gl a⟩
theorem Qd.lay(h:Qd w i c ep m q txt ns)(a:ByteArray):Z7 q.S a=true:=by rw[h.dsk];exact(zhI _ _ _).2
theorem Qd.after(h:Qd w i c ep m q txt ns)(l:c.ok){m':MS}{a:List Nm}{now:Int}{xs:List SX}(y:Yp c ep m ns m' a)(n:∀x∈xs,okX x)(hn:m'.now=now)(p:m'.L=(m.took now xs).L)(o:m'.Gl=(m.took now xs).Gl){u:JM}(v:zaW (m.took now xs) q u now xs)(s:zR w' i c ep m' u):zB w' i c ep m':=by
 subst hn
 have e:JG c ep m' a (txt++(xT m'.now xs++nl)):=.laid m ns txt m' a xs h.hist y n p o
 have k:=e.sok l
 have g:=(zhI ep.toNat txt (xT m'.now xs)).1
 have z:=h.st
 rcases v with⟨f,rfl⟩|⟨f,b,j,rfl⟩
 ·refine⟨_,_,_,s,h.up,?_,h.e1,h.st,?_,e⟩
  ·show JI q.S (xT m'.now xs)=_;rw[h.dsk,g]
  ·show((txt++(xT m'.now xs++nl)).size:Int)<=2*q.st+4096
   unfold KN at f
   rw[h.dsk,g,ziQ]at f
   have:=of_decide_eq_false f
   omega
 ·rw[<-p,<-o]at j
  obtain⟨B,_,C⟩:=zkf ep.toNat (txt++(xT m'.now xs++nl)) (xT m'.now b)
  have t:=k.ok.now
  have r:=ZK (now:=m'.now) (xs:=b) (by unfold xR;omega) (fun x n=>e.okA x (j.mem_iff.1 n))
  have F:=k.ok.seg.len400 l
  have G:=k.gl l
  have K:b.length=m'.L.length+m'.Gl.length:=by rw[j.length_eq];unfold Xq;rw[List.length_append,List.length_map]
  have A:(xT m'.now b).size<=1000000000:=by rw[ZJ];omega
  have d:(zkC (ZB q (xT m'.now xs)) (xT m'.now b)).st=(xT m'.now b).size+1:=by
   show zbL (JI q.S (xT m'.now xs)) (xT m'.now b) q.st=_
   unfold zbL
   rw[h.dsk,g,C];rfl
  refine⟨_,_,_,s,h.up,?_,h.e1,?_,?_,JG.anew m' a _ b e j⟩
  ·show zdj (JI q.S (xT m'.now xs)) (xT m'.now b)=_;rw[h.dsk,g,B]
  ·rw[d];omega
  ·rw[d,QR];omega
theorem Qd.quiet(h:Qd w i c ep m q txt ns){m':MS}{a:List Nm}(k:Yp c ep m ns m' a)(hn:m'.now=m.now)(j:m'.L=m.L)(g:m'.Gl=m.Gl)(n:xP false w' i c ep m')(l:zk (XS i) w w'):zB w' i c ep m'/\Kx i w w':=by
 have b:xP q.dn w' i c ep m':=by rw[h.up];exact n
 obtain⟨d,f⟩:=h.at_.put b l (fun _ e=>e)
 exact⟨⟨q,txt,a,d,h.up,h.dsk,h.e1,h.st,h.tx,.quiet m ns txt m' a h.hist k hn j g⟩,f⟩
end
theorem zeC{w:Q}{i:Ids}{c:Cf}{ep:Int}{m:MS}(h:zB w i c ep m)(n:Int)(hn:n<1\/1000<n\/100000<m.now+n)(a:0<=m.now/\m.now<=100000):
  Calls prog 26 #[.pointer (E ⟨i.x,0,O⟩),I J n] w fun e w'=>e=.returned (I J 5)/\Y w.1.size w w':=
 zcF h.own n hn a
theorem zey{w:Q}{i:Ids}{c:Cf}{ep:Int}{m:MS}(h:zB w i c ep m)(p:c.ok)(se tm val:Int)(b:0<=se/\se<4)(o:0<=tm/\tm<=m.now)(g:m.now-c.la<=tm)(a:m.now<=100000)(d: -2147483648<=val/\val<=2147483647)(q:0<=zU m.L/\zU m.L<=1000)(l:zjc m.L)(j:∀k:Nat,k<c.n->zS m.Gl (xZ c se tm k)=O)(f:c.qu<zU m.L+(1+2*qK c m.L ⟨se,tm,val⟩ c.n)):
  Calls prog 27 #[.pointer (E ⟨i.x,0,O⟩),I J se,I J tm,I i32 val] w fun e w'=>e=.returned (I J 4)/\Y w.1.size w w':=
 zcC h.own p se tm val b o g a d q l j f
theorem K0{w:Q}{i:Ids}{c:Cf}{ep:Int}{m:MS}(h:zB w i c ep m)(b:c.ok)(d:0<=zU m.L/\zU m.L<=1000)(a:m.L.length<=100000):
  Calls prog 15 #[.pointer (E ⟨i.x,0,O⟩)] w fun e w'=>e=.returned (.agg #[I J m.now,I J (zU m.L),I J (yi (vK (zU m.L) c.qu)),I J ep,I J (xy m.L 1),I J (xy m.L 2),I J (xy m.L 3),I J m.Gl.length])/\Y w.1.size w w':=
 ziI h.own b d a
theorem zcD{w:Q}{i:Ids}{c:Cf}{ep:Int}{m:MS}(h:zB w i c ep m)(f:c.ok)(a:0<=m.now/\m.now<=100000)(t se wn:Int)(g: -1<=t/\t<c.n)(b:0<=se/\se<4)(d:0<=wn/\wn<=100000):
  Calls prog 57 #[.pointer (E ⟨i.x,0,O⟩),I J t,I J se,I J wn] w fun e w'=>e=.returned (.tuple #[.agg #[I J (qk c m.now m.Gl m.L t se wn).1.cnt,I J (qk c m.now m.Gl m.L t se wn).1.sum,I i32 (qk c m.now m.Gl m.L t se wn).1.mn,I i32 (qk c m.now m.Gl m.L t se wn).1.mx],I J (qk c m.now m.Gl m.L t se wn).2])/\Y w.1.size w w':=
 ziH h.own f a t se wn g b d
theorem zcG{w:Q}{i:Ids}{c:Cf}{ep:Int}{m:MS}(h:zB w i c ep m)(k:c.ok)(n:Int)(hn:1<=n/\n<=1000)(g:0<=m.now/\m.now+n<=100000)(v:zhD 1000000 100000 m.TL m.QL)(z:∀p∈m.L,inR c p.1)(j:m.L.length<=2000)(l:∀a QL',JF (m.now+n) m.TL m.QL a QL'->a.length<=50000):
  Calls prog 26 #[.pointer (E ⟨i.x,0,O⟩),I J n] w fun e w'=>e=.returned (I J 0)/\∃d b a,zB w' i c ep {m with now:=m.now+n,TL:=a,QL:=b}/\Kx i w w'/\JF (m.now+n) m.TL m.QL d b/\(∀p∈b,m.now+n<p.2.til)/\qD c {m with now:=m.now+n,TL:=d,QL:=b} a:=by
 obtain⟨q,txt,ns,f⟩:=h
 obtain⟨F,G⟩:=f.lens k
 refine(zjZ f.at_ k n hn g v z j l f.hist.okA (by omega) _ (by omega) f.dok ⟨f.st.1,by have:=f.st.2;omega⟩).mono ?_
 rintro e w' ⟨B,y⟩
 rcases B with⟨o,_⟩|⟨_,C,K,d,b,a,u,A,r,t,s⟩
 ·rw[f.lay]at o;cases o
 ·exact⟨C,d,b,a,f.after k (.ticked m ns n d a b hn.1 g.2 r t s) (by simp) rfl rfl rfl u A,y,r,t,s⟩
theorem zeH(s:Sg)(a:s.wf)(st:Int)(b:0<=st/\st<=9):okX (s,⟨st,qC⟩):=
 ⟨a,by show xR st;unfold xR;omega,by show xR 0;unfold xR;omega,by show xR 0;unfold xR;omega,by show(-2147483648:Int)<=0/\(0:Int)<=2147483647;omega,by show(-2147483648:Int)<=0/\(0:Int)<=2147483647;omega⟩
theorem zeG{c:Cf}{ep:Int}{m:MS}(e:c.ok)(r:MOk c ep m)(h:∀x∈Xq m.L m.Gl,okX x){se tm val:Int}(d:0<=se/\se<4)(i:0<=tm/\tm<=100000)(a: -2147483648<=val/\val<=2147483647):(∀x∈km c m.Gl m.L ⟨se,tm,val⟩,okX x)/\(km c m.Gl m.L ⟨se,tm,val⟩).length<=1000:=by
 have w:=e.n1
 have y:=e.n4
 have b:=fun(t:Int) (k: -1<=t) (q:t<c.n)=>zfl e (x:=⟨se,tm,val⟩) d i k q
 refine⟨fun x g=>?_,?_⟩
 ·rcases List.mem_cons.1 g with rfl|g
  ·have o:=(b (-1) (by omega) (by omega)).1
   unfold zhL
   cases l:ku m.L (xc c ⟨se,tm,val⟩)with
   |none=>exact⟨o,by show xR 1;unfold xR;omega,by show xR 1;unfold xR;omega,by show xR val;unfold xR;omega,a,a⟩
   |some v=>
    obtain⟨_,B,C,F,G⟩:=MOk.rawAt r.seg e l
    have p:=h _ (List.mem_append_left _ (vu l))
    have z:=p.mn;have A:=p.mx
    dsimp only at z A
    refine⟨o,by show xR 1;unfold xR;omega,by show xR (1+v.cl.cnt);unfold xR;omega,by show xR (val+v.cl.sum);unfold xR;omega,?_,?_⟩
    ·show-2147483648<=(if v.cl.mn<val then v.cl.mn else val)/\(if v.cl.mn<val then v.cl.mn else val)<=2147483647
     split<;>omega
    ·show-2147483648<=(if val<v.cl.mx then v.cl.mx else val)/\(if val<v.cl.mx then v.cl.mx else val)<=2147483647
     split<;>omega
  ·unfold QP at g
   obtain⟨s,f,rfl⟩:=List.mem_map.1 g
   have f:=(List.mem_filter.1 f).1
   unfold qg at f
   obtain⟨j,u,rfl⟩:=List.mem_map.1 f
   exact zeH _ (b (j:Int) (by omega) (by have:=List.mem_range.1 u;omega)).1 2 (by omega)
 ·have k:(QP c m.Gl m.L ⟨se,tm,val⟩ c.n).length<=c.n:=by
   unfold QP
   rw[List.length_map]
   refine Nat.le_trans (List.length_filter_le _ _) ?_
   unfold qg;simp
  show(zhL c m.L ⟨se,tm,val⟩::QP c m.Gl m.L ⟨se,tm,val⟩ c.n).length<=1000
  rw[List.length_cons];omega
theorem ziG{w:Q}{i:Ids}{c:Cf}{ep:Int}{m:MS}(h:zB w i c ep m)(j:c.ok)(se tm val:Int)(a:0<=se/\se<4)(f:0<=tm/\tm<=m.now)(o:m.now-c.la<=tm)(s:m.now<=100000)(b: -2147483648<=val/\val<=2147483647)(W:0<=zU m.L/\zU m.L<=1000)(u:zjc m.L)(r:∀k:Nat,k<c.n->zS m.Gl (xZ c se tm k)=O)(l:zU m.L+(1+2*qK c m.L ⟨se,tm,val⟩ c.n)<=c.qu)(B:m.L.length<=1000000)(C:∀p∈m.L,p.1.t= -1->p.2.cl.small):
  Calls prog 27 #[.pointer (E ⟨i.x,0,O⟩),I J se,I J tm,I i32 val] w fun e w'=>e=.returned (I J 0)/\zB w' i c ep {m with L:=yH c m.L ⟨se,tm,val⟩}/\Kx i w w':=by
 obtain⟨q,txt,ns,d⟩:=h
 obtain⟨U,V⟩:=d.lens j
 have R:=d.hist.sok j
 obtain⟨g,F⟩:=zeG j R.ok d.hist.okA a ⟨f.1,by omega⟩ b
 have A:=zcW (c:=c) (Gl:=m.Gl) (L:=m.L) (x:=⟨se,tm,val⟩) u r
 refine(zkB d.at_ j se tm val a f o s b W u r l C g (KV _ _ _ d.hist.okA g) F (by omega) (by omega) _ (by omega) d.dok ⟨d.st.1,by have:=d.st.2;omega⟩).mono ?_
 rintro e w' ⟨S,K⟩
 obtain⟨T,X,G,N⟩:=Zb S (d.lay _)
 have z:m.took m.now (km c m.Gl m.L ⟨se,tm,val⟩)={m with L:=yH c m.L ⟨se,tm,val⟩}:=by unfold MS.took;rw[A]
 have M:({m with L:=yH c m.L ⟨se,tm,val⟩}:MS).L=(m.took m.now (km c m.Gl m.L ⟨se,tm,val⟩)).L:=by rw[z]
 have v:({m with L:=yH c m.L ⟨se,tm,val⟩}:MS).Gl=(m.took m.now (km c m.Gl m.L ⟨se,tm,val⟩)).Gl:=by rw[z]
 have y:zR w' i c ep {m with L:=yH c m.L ⟨se,tm,val⟩} X:=by rw[<-z];exact N
 exact⟨T,d.after j (.added m ns ⟨se,tm,val⟩ a f o b l) g rfl M v G y,K⟩
structure FLt(w:Q)(i:Ids):Prop where
 foot:∀k,zT w i k->k<w.1.size
 d:i.d<w.1.size
 tab:ZV<w.1.size
section
variable {w w' X V Z:Q} {i:Ids} {c:Cf} {ep:Int} {m m':MS}
theorem zB.flt(h:zB w i c ep m):FLt w i:=⟨h.foot_lt,h.dlt,h.tab.lt⟩
theorem jp{f:Nat->Prop}{d:Nat}(b:zk f w w')(a:d<w.1.size)(hn:¬f d):fsB w' d=fsB w d:=by
 unfold fsB World.cell?;simp only[b.block _ a hn]
theorem Qr{d:Nat}(a:Y w.1.size w X)(b:d<w.1.size):fsB X d=fsB w d:=by
 unfold fsB World.cell?;simp only[a.block _ b]
theorem FLt.same(h:FLt w i)(a:Y w.1.size w X){k:Nat}:zT X i k↔zT w i k:=by
 unfold zT;rw[Qr a h.d]
theorem FLt.kept(h:FLt w i)(a:Y w.1.size w X)(b:Kx i X V):zk (zT w i) X V:=b.kept.mono (fun k _ e=>(h.same a).1 e)
theorem FLt.kx(h:FLt w i)(a:Y w.1.size w X)(b:Kx i X V):Kx i w V:=(Kx.below a h.d).trans b
theorem zix(h:Kx i w w'){k:Nat}(b:zT w' i k):zT w i k\/w.1.size<=k:=by
 rcases b with e|e
 ·exact .inl (.inl e)
 ·rcases h.fs k e with a|a
  ·exact .inl (.inr a)
  ·exact .inr a
theorem zes(h:Kx i X.drew V):Kx i X V:=⟨⟨h.kept.os,h.kept.tape,h.kept.output,h.kept.size,h.kept.block⟩,h.fs⟩
theorem FLt.close(h:FLt w i)(m:Y w.1.size w X)(r:zB V i c ep m')(n:Kx i X V){g:Nat}(a:zk (fun k=>k=g) V Z)(p:w.1.size<=g)(q:g<X.1.size):zB Z i c ep m'/\Kx i w Z:=by
 have j:=h.kx m n
 have o:=h.d
 have hn:¬i.d=g:=by omega
 have f:i.d<V.1.size:=P o j.size
 refine⟨r.kept a (fun k b e=>?_) (fun e=>?_),⟨j.kept.trans a (fun k b e=>?_),fun k b=>?_⟩⟩
 ·have e:k=g:=e
  rcases zix n b with l|l
  ·have:=h.foot k ((h.same m).1 l);omega
  ·omega
 ·have e:ZV=g:=e
  have:=h.tab;omega
 ·have e:k=g:=e
  omega
 ·rw[jp a f hn]at b;exact j.fs k b
theorem zB.not_row(h:zB w i c ep m){B size n:Nat}{e:TypeId}{v:Value}{xs:List Value}(g:w.ownsRow B e size v n xs)(d:zgG e=false){k:Nat}(f:v.ownBlock=E k):¬zT w i k:=by
 obtain⟨a,b⟩:=zz g f
 exact h.tag b d
theorem zB.not_post(h:zB w i c ep m){b x d:Nat}{e:Cf}{ct g j:Value}{f:Int}(a:w.1[b]?=E (zD x d e ct g j f)):¬zT w i b:=by
 unfold zD at a
 exact h.tag a (by decide)
theorem zB.ne_d(h:zB w i c ep m){k:Nat}(a:¬zT w i k):¬i.d=k:=fun e=>a (.inl (.inr (.inr (.inr (.inr e.symm)))))
theorem zB.tier(h:zB w i c ep m){k:Nat}{cs:Array Value}{p:Nat×Nat}(a:w.1[k]?=E (.cells cs 80 p))(s:zT w i k):i.tv.ownBlock=E k:=by
 have hn:¬(k=i.j\/k=i.d\/fsB w i.d=E k):=fun e=>by
  obtain⟨q,txt,ns,h⟩:=h
  obtain⟨fs,n⟩:=h.at_.jrn
  have b:vL i.j i.d fs k:=by
   rcases e with e|e|e
   ·exact .inl e
   ·exact .inr (.inl e)
   ·exact .inr (.inr (n.fsB▸e))
  obtain⟨o,t,r,g,l⟩:=n.tag k b
  have f:=yy a g
  rcases l with b|b|b
  ·exact absurd (f.trans b) (by decide)
  ·exact absurd (f.trans b) (by decide)
  ·exact absurd (f.trans b) (by decide)
 rcases s with(e|e|e|e|e)|e
 ·exact absurd (yy a (e▸h.head)) (by decide)
 ·rcases e with e|e|e|e
  ·exact absurd (yy a (e▸h.set.head)) (by decide)
  ·exact e
  ·exact absurd e.symm (zZ (xO.1 h.set.live) a)
  ·exact absurd e.symm (zZ h.set.gone a)
 ·rcases e with e|e|e
  ·exact absurd (yy a (e▸h.board.head)) (by decide)
  ·exact absurd e.symm (zZ h.board.tk a)
  ·exact absurd e.symm (zZ h.board.leases a)
 ·exact absurd (.inl e) hn
 ·exact absurd (.inr (.inl e)) hn
 ·exact absurd (.inr (.inr e)) hn
theorem zB.stopped(h:zB w i c ep m):Calls prog 32 #[.pointer (E ⟨i.d,0,O⟩)] w fun e w'=>e=.returned (.bool false)/\w'=w:=by
 obtain⟨q,txt,ns,h⟩:=h
 obtain⟨fs,f⟩:=h.at_.jrn
 have a:=qP 0 i.d q.S fs w f.disk
 have b:zi q.S=false:=by rw[h.dsk];exact(yh rfl rfl).1
 rw[b]at a
 exact a
end
theorem zeU(c:Cf)(g:xt c.s c.le c.la c.wi c.ke c.qu c.n c.F c.W c.K=false)(a:Option Addr)(cap p:Nat)(w:Q)(f:TS w a c.n c.F c.W c.K):
  Calls prog 29 #[.agg #[I J c.s,I J c.le,I J c.la,I J c.wi,I J c.ke,I J c.qu,.slice a c.n cap],.pointer (E ⟨p,0,O⟩)] w fun e w'=>e=.returned (.tuple #[.pointer O,I J 1])/\Y w.1.size w w':=by
 have b:∀o,Y w.1.size w (w.alloc o):=fun o=>(D _ _).alloc (H _) _
 have HR:=fun o=>zd (ZD c.s c.le c.la c.wi c.ke c.qu a c.n cap c.F c.W c.K (w.alloc o) (f.below (b o)))
 rw[g,show Zs false=1 from rfl]at HR
 go_enter func29,ntmps29
 go_wp2_with fail
 refine(ud (HR _)).mono ?_
 rintro e h ⟨rfl,d⟩
 go_wp2_with fail
 refine bodyPost_ret (results_tmp2 rfl _ _ _) rfl ?_
 exact⟨rfl,(b _).trans (d.mono (b _).size)⟩
theorem Kj{w:Q}{base size n:Nat}{e:TypeId}{v:Value}{xs:List Value}(h:w.ownsRow base e size v n xs):w.ownsRow 0 e size v n xs:=yF h (Nat.zero_le _)
theorem zgH{U:Q}{c:Cf}{ep:Int}{m d a l h g j p:Nat}{tv fs:Value}{S:DS}(w:xl U m c tv d a [] [])(u:zO U l c tv ep 0 h g [] [])(n:JAt U j p 0 S fs)(q:XN U)(r:d≠h)(t:d≠g)(a3:a≠h)(a4:a≠g)(hn:∀k,(vy m tv d a k\/ZZ l h g k\/vL j p fs k)->k≠ZV):
  zR (U.alloc (.cells #[I J c.s,I J c.le,I J c.la,I J c.wi,I J c.ke,I J c.qu,tv,I J ep,I J 0,.pointer (E ⟨m,0,O⟩),.pointer (E ⟨l,0,O⟩),.pointer (E ⟨j,0,O⟩),.bool false] 94)) ⟨U.1.size,m,d,a,l,h,g,tv,j,p⟩ c ep ms0 ⟨0,S,false⟩:=by
 have b:∀o,Y U.1.size U (U.alloc o):=fun o=>(D _ _).alloc (H _) _
 have i:=fun o=>(⟨(((b o).block _ (zb n.head)).trans n.head),n.disk.later (b o)⟩:JAt (U.alloc o) j p 0 S fs)
 refine⟨zr _ _,w.kept (zk.of_below (f:=fun _=>False) (b _)) (fun _ _ e=>e),u.later (b _),⟨fs,i _⟩,XI q (b _),r,t,a3,a4,fun k v=>?_⟩
 rcases v with(e|e|e|e|e)|e
 ·have y:=q.lt
  have x:k=U.1.size:=e
  omega
 ·exact hn k (.inl e)
 ·exact hn k (.inr (.inl e))
 ·exact hn k (.inr (.inr (.inl e)))
 ·exact hn k (.inr (.inr (.inr (.inl e))))
 ·exact hn k (.inr (.inr (.inr (.inr ((i _).fsB.symm.trans e)))))
def zaX(c:Cf)(T:ByteArray)(m':MS)(A:Ids->Q->Prop):Prop:=∀(W:Q) (i:Ids) (ep:Int) (q:JM) (b:Nat),zR W i c ep ms0 q->W.1[b]?=E (.cells #[.string T] 9 (0,0))->¬zT W i b->A i W->Calls prog 71 #[.pointer (E ⟨i.x,0,O⟩),.func (.func 202) #[] #[.pointer (E ⟨b,0,O⟩)]] W fun e w'=>e=.returned (.tuple #[])/\zR w' i c ep m' q/\Kx i W w'
theorem zhS{S:DS}{N:Nat}(h:DOk S N):DOk (Ym S) (N+5):=by
 have b:Vp.size=1:=rfl
 have a:=kX h ym Vp
 rw[b]at a
 unfold Ym
 split
 ·exact yR a (by omega)
 ·exact yR (XU a _) (by omega)
def zko(c:Cf)(p:Nat)(S:DS)(fs:Value)(m':MS)(w:Q)(e:Ending)(w':Q):Prop:=
 ∃(i:Ids) (b:List SX) (a:List (Jk×Tsk)),i.d=p/\e=.returned (.tuple #[.pointer (E ⟨i.x,0,O⟩),I J 0])/\b.Perm (Xq m'.L m'.Gl)/\zR w' i c (zdR S) {m' with TL:=a} ⟨zbL (Ym S) (xT m'.now b) 0,zdj (Ym S) (xT m'.now b),false⟩/\qD c m' a/\zk (foot p fs) w w'/\(∀k,zT w' i k->foot p fs k\/w.1.size<=k)
theorem zkc(c:Cf)(hc:c.ok)(hr:xt c.s c.le c.la c.wi c.ke c.qu c.n c.F c.W c.K=true)(a:Option Addr)(cap p:Nat)(S:DS)(fs:Value)(w:Q)(hd:zdC w p S fs)(N:Nat)(hN:N<=900000000000)(bn:DOk S N)(bd:JR S=true)(aB:∀w',zk (foot p fs) w w'->TS w' a c.n c.F c.W c.K)(ap:XN w)(br:∀k,foot p fs k->k≠ZV)
  (m':MS) (A:Ids->Q->Prop) (aD:∀i W,zk (foot p fs) w W->(∀k,zT W i k->foot p fs k\/w.1.size<=k)->A i W) (aT:zaX c ((yN (Ym S) yk).extract 0 (zhE (yN (Ym S) yk))) m' A) (bm:0<=m'.now/\m'.now<=100000) (an:∀x∈Xq m'.L m'.Gl,okX x) (bP:m'.L.length<=2000) (bY:m'.Gl.length<=49000000) (hL:∀p∈m'.L,inR c p.1) (bR:m'.TL.length<=50000) (bo:∀ys,ys.Perm (Xq m'.L m'.Gl)->Yy (Ym S) (xT m'.now ys)=true):
  Calls prog 29 #[.agg #[I J c.s,I J c.le,I J c.la,I J c.wi,I J c.ke,I J c.qu,.slice a c.n cap],.pointer (E ⟨p,0,O⟩)] w (zko c p S fs m' w):=by
 have am:=zhS bn
 have az:Y w.1.size w (w.alloc (.cells #[I J c.s,I J c.le,I J c.la,I J c.wi,I J c.ke,I J c.qu,.slice a c.n cap] 27)):=(D _ _).alloc (H _) _
 have bv:=zd (zr w (.cells #[I J c.s,I J c.le,I J c.la,I J c.wi,I J c.ke,I J c.qu,.slice a c.n cap] 27))
 have HR:=zd (ZD c.s c.le c.la c.wi c.ke c.qu a c.n cap c.F c.W c.K _ (aB _ (zk.of_below az)))
 rw[hr,show Zs true=0 from rfl]at HR
 have aE:=zd az
 have HD:=zd hd
 have bB:=zd aB
 have ai:=zd ap
 have aW:=zd br
 have ah:=zd aT
 have af:=zd aD
 have aS:=zd an
 have bw:=zd hL
 have aV:=zd bo
 have ag:=zd am
 have bZ:=hd.lt
 clear hd aB az ap br aT aD an hL bo am
 go_enter func29,ntmps29
 go_wp2_with fail
 refine(ud HR).mono ?_
 rintro e w1 ⟨rfl,aA⟩
 have a5:=(ud aE).trans (aA.mono (ud aE).size)
 have aP:=zd ((aA.block w.1.size (by rw[zG];omega)).trans (ud bv))
 have ar:=zd (zdS ((ud HD).later a5) N (by omega) bn)
 rw[bd]at ar
 have aY:=zd a5
 clear aA a5 HR
 go_wp2_with fail
 refine(ud ar).mono ?_
 rintro e w2 ⟨rfl,ax,be,ae,bf⟩
 have c2:=(ud aY).size
 have bK:¬foot p fs w.1.size:=by
  rintro(h|h)
  ·omega
  ·have:=vY (ud HD).row _ h;omega
 have al:=ae.heap (ud aP) bK
 have a7:zk (foot p fs) w w2:=(zk.of_below (ud aY)).trans ae (fun _ _ h=>h)
 obtain⟨z0,z1,z2,z3,z4,z5,z6,-⟩:=zc al
 have aQ:=zd (zgB c hc a cap w2 (ud bB _ a7))
 have c3:=ae.size
 have a0:=zd a7
 have aK:=zd be
 have aL:=zd bf
 clear be ae bf a7 al aP ar
 go_wp2_with fail
 refine(ud aQ).mono ?_
 rintro e d ⟨g,b,rfl,a8,bb⟩
 have aR:=zd a8
 have aq:=zd bb
 clear a8 bb z0 z1 z2 z3 z4 z5 z6 aQ
 go_wp2_with fail
 have bc:=(ud aq).alloc (ud aq).size (.cells #[I J c.s,I J c.le,I J c.la,I J c.wi,I J c.ke,I J c.qu,.slice (E ⟨g,0,O⟩) c.n b] 89)
 have bk:=zr d (.cells #[I J c.s,I J c.le,I J c.la,I J c.wi,I J c.ke,I J c.qu,.slice (E ⟨g,0,O⟩) c.n b] 89)
 have bs:=zG d (.cells #[I J c.s,I J c.le,I J c.la,I J c.wi,I J c.ke,I J c.qu,.slice (E ⟨g,0,O⟩) c.n b] 89)
 have au:=zd ((ud aR).alloc (.cells #[I J c.s,I J c.le,I J c.la,I J c.wi,I J c.ke,I J c.qu,.slice (E ⟨g,0,O⟩) c.n b] 89))
 generalize(d.alloc (.cells #[I J c.s,I J c.le,I J c.la,I J c.wi,I J c.ke,I J c.qu,.slice (E ⟨g,0,O⟩) c.n b] 89))=X at*
 obtain⟨x0,x1,x2,x3,x4,x5,x6,-⟩:=zc bk
 have v:d.1.size<X.1.size:=by omega
 have HS:=fun W=>zd (zhl c (E ⟨g,0,O⟩) b W)
 have HJ:=fun W=>zd (zgb c (E ⟨g,0,O⟩) b (zdR S) W)
 have aN:=fun W=>zd (zcw p W)
 have a9:=zd bc
 have bC:=zd bs
 clear bc bk bs
 go_region_held3 (fun w'=>w'.cell? ⟨d.1.size,0,O⟩=E (I J c.s)/\w'.cell? ⟨d.1.size,1,O⟩=E (I J c.le)/\w'.cell? ⟨d.1.size,2,O⟩=E (I J c.la)/\w'.cell? ⟨d.1.size,3,O⟩=E (I J c.wi)/\w'.cell? ⟨d.1.size,4,O⟩=E (I J c.ke)/\w'.cell? ⟨d.1.size,5,O⟩=E (I J c.qu)/\w'.cell? ⟨d.1.size,6,O⟩=E (.slice (E ⟨g,0,O⟩) c.n b)) (go_keep) (first
  |(go_at_call 68;(with_reducible refine(ud (HS _)).mono ?_);rintro e V ⟨s1,q,r,rfl,C,b2,b3,b4,v1,v2,v3,v4⟩;have m:Y X.1.size X V:=⟨v4.os,v4.tape,v4.output,v4.size,v4.block⟩;have aG:Hid (X.1.size<=s1/\X.1.size<=q/\X.1.size<=r):=⟨C,b2,b3⟩;have B4:=zd b4;have V1:=zd v1;have V2:=zd v2;have V3:=zd v3;clear v1 v2 v3 v4 C b2 b3 b4;have y0:V.cell? ⟨d.1.size,0,O⟩=E (I J c.s):=(m.cell (p:=⟨d.1.size,0,O⟩) v).trans x0;have y1:V.cell? ⟨d.1.size,1,O⟩=E (I J c.le):=(m.cell (p:=⟨d.1.size,1,O⟩) v).trans x1;have y2:V.cell? ⟨d.1.size,2,O⟩=E (I J c.la):=(m.cell (p:=⟨d.1.size,2,O⟩) v).trans x2;have y3:V.cell? ⟨d.1.size,3,O⟩=E (I J c.wi):=(m.cell (p:=⟨d.1.size,3,O⟩) v).trans x3;have y4:V.cell? ⟨d.1.size,4,O⟩=E (I J c.ke):=(m.cell (p:=⟨d.1.size,4,O⟩) v).trans x4;have y5:V.cell? ⟨d.1.size,5,O⟩=E (I J c.qu):=(m.cell (p:=⟨d.1.size,5,O⟩) v).trans x5;have y6:V.cell? ⟨d.1.size,6,O⟩=E (.slice (E ⟨g,0,O⟩) c.n b):=(m.cell (p:=⟨d.1.size,6,O⟩) v).trans x6;have u:d.1.size<V.1.size:=P v m.size;have aJ:=zd m;clear m HS)
  |(go_at_call 69;(with_reducible refine(ud (HJ _)).mono ?_);rintro e U ⟨C,z,y,rfl,d1,d2,d3,u1,u4⟩;have l:Y V.1.size V U:=⟨u4.os,u4.tape,u4.output,u4.size,u4.block⟩;have aF:Hid (V.1.size<=C/\V.1.size<=z/\V.1.size<=y):=⟨d1,d2,d3⟩;have U1:=zd u1;clear u1 u4 d1 d2 d3;have z0:U.cell? ⟨d.1.size,0,O⟩=E (I J c.s):=(l.cell (p:=⟨d.1.size,0,O⟩) u).trans y0;have z1:U.cell? ⟨d.1.size,1,O⟩=E (I J c.le):=(l.cell (p:=⟨d.1.size,1,O⟩) u).trans y1;have z2:U.cell? ⟨d.1.size,2,O⟩=E (I J c.la):=(l.cell (p:=⟨d.1.size,2,O⟩) u).trans y2;have z3:U.cell? ⟨d.1.size,3,O⟩=E (I J c.wi):=(l.cell (p:=⟨d.1.size,3,O⟩) u).trans y3;have z4:U.cell? ⟨d.1.size,4,O⟩=E (I J c.ke):=(l.cell (p:=⟨d.1.size,4,O⟩) u).trans y4;have z5:U.cell? ⟨d.1.size,5,O⟩=E (I J c.qu):=(l.cell (p:=⟨d.1.size,5,O⟩) u).trans y5;have z6:U.cell? ⟨d.1.size,6,O⟩=E (.slice (E ⟨g,0,O⟩) c.n b):=(l.cell (p:=⟨d.1.size,6,O⟩) u).trans y6;have t:d.1.size<U.1.size:=P u l.size;have aI:=zd l;clear l HJ)
  |(go_at_call 70;(with_reducible refine(ud (aN _)).mono ?_);rintro e T ⟨j1,rfl,d1,t1,t4⟩;have j:Y U.1.size U T:=⟨t4.os,t4.tape,t4.output,t4.size,t4.block⟩;have aM:Hid (U.1.size<=j1):=d1;have T1:=zd t1;clear t1 t4 d1;have t0:T.cell? ⟨d.1.size,0,O⟩=E (I J c.s):=(j.cell (p:=⟨d.1.size,0,O⟩) t).trans z0;have t1:T.cell? ⟨d.1.size,1,O⟩=E (I J c.le):=(j.cell (p:=⟨d.1.size,1,O⟩) t).trans z1;have t2:T.cell? ⟨d.1.size,2,O⟩=E (I J c.la):=(j.cell (p:=⟨d.1.size,2,O⟩) t).trans z2;have t3:T.cell? ⟨d.1.size,3,O⟩=E (I J c.wi):=(j.cell (p:=⟨d.1.size,3,O⟩) t).trans z3;have t4:T.cell? ⟨d.1.size,4,O⟩=E (I J c.ke):=(j.cell (p:=⟨d.1.size,4,O⟩) t).trans z4;have t5:T.cell? ⟨d.1.size,5,O⟩=E (I J c.qu):=(j.cell (p:=⟨d.1.size,5,O⟩) t).trans z5;have t6:T.cell? ⟨d.1.size,6,O⟩=E (.slice (E ⟨g,0,O⟩) c.n b):=(j.cell (p:=⟨d.1.size,6,O⟩) t).trans z6;have bQ:d.1.size<T.1.size:=P t j.size;have aH:=zd j;clear j aN))
 go_wp2_with fail
 have m:=ud aJ
 have l:=ud aI
 have j:=ud aH
 have a4:=(ud a9).trans (m.mono (ud a9).size)
 have a3:=a4.trans (l.mono a4.size)
 have B:=a3.trans (j.mono a3.size)
 have a2:=l.trans (j.mono l.size)
 have bI:=m.size
 have bH:=l.size
 have bG:=j.size
 have bE:=(ud a9).size
 obtain⟨s0,s9,s8⟩:=ud aG
 obtain⟨j0,j9,j8⟩:=ud aF
 have bU:=ud aM
 have bp:=zb (ud V1)
 have bj:q<V.1.size:=(ud V2).lt
 have bL:=(ud V3).lt
 have bJ:=(ud U1).foot_lt
 obtain⟨Z,bV,bh,bM,bO⟩:=(ud au).form (by have:=hc.n1;omega)
 have bN:Z=g:=by injection bh with h1 _ _;injection h1 with h1;injection h1 with h1;exact h1.symm
 subst bN
 have ao:xl T s1 c (.slice (E ⟨Z,0,O⟩) c.n b) q r [] []:=⟨((a2.block _ bp).trans (ud V1)),zM (zM (Kj (ud au)) m) a2,(ud V2).later a2,(ud V3).later a2,ud B4⟩
 have a6:JAt T j1 p 0 (Ym S) ax:=⟨ud T1,(ud aK).later B⟩
 have bq:XN T:=XI ((ud ai).kept (ud a0) (fun e=>ud aW _ e rfl)) B
 have bW:=(ud ai).lt
 have o:∀k,(vy s1 (.slice (E ⟨Z,0,O⟩) c.n b) q r k\/ZZ C z y k\/vL j1 p ax k)->foot p fs k\/w.1.size<=k:=fun k hk=>by
  rcases hk with(e|e|e|e)|(e|e|e)|e|e|e
  ·right;have:k=s1:=e;omega
  ·right
   have e':(Value.slice (E ⟨Z,0,O⟩) c.n b).ownBlock=E k:=e
   simp[Value.ownBlock]at e';subst e';omega
  ·right;have:k=q:=e;omega
  ·right;have:k=r:=e;omega
  ·right;have:k=C:=e;omega
  ·right;have:k=z:=e;omega
  ·right;have:k=y:=e;omega
  ·right;have:k=j1:=e;omega
  ·exact .inl (.inl e)
  ·rcases ud aL k e with h|h
   ·exact .inl (.inr h)
   ·right;omega
 have ad:=zgH ao ((ud U1).later j) a6 bq (show q≠z by omega) (show q≠y by omega) (show r≠z by omega) (show r≠y by omega) (fun k hk=>by
  rcases o k hk with h|h
  ·exact ud aW k h
  ·omega)
 have ak:=B.alloc B.size (.cells #[I J c.s,I J c.le,I J c.la,I J c.wi,I J c.ke,I J c.qu,.slice (E ⟨Z,0,O⟩) c.n b,I J (zdR S),I J 0,.pointer (E ⟨s1,0,O⟩),.pointer (E ⟨C,0,O⟩),.pointer (E ⟨j1,0,O⟩),.bool false] 94)
 have aj:Y T.1.size T (T.alloc (.cells #[I J c.s,I J c.le,I J c.la,I J c.wi,I J c.ke,I J c.qu,.slice (E ⟨Z,0,O⟩) c.n b,I J (zdR S),I J 0,.pointer (E ⟨s1,0,O⟩),.pointer (E ⟨C,0,O⟩),.pointer (E ⟨j1,0,O⟩),.bool false] 94)):=(D _ _).alloc (H _) _
 have bF:=zG T (.cells #[I J c.s,I J c.le,I J c.la,I J c.wi,I J c.ke,I J c.qu,.slice (E ⟨Z,0,O⟩) c.n b,I J (zdR S),I J 0,.pointer (E ⟨s1,0,O⟩),.pointer (E ⟨C,0,O⟩),.pointer (E ⟨j1,0,O⟩),.bool false] 94)
 generalize T.alloc (.cells #[I J c.s,I J c.le,I J c.la,I J c.wi,I J c.ke,I J c.qu,.slice (E ⟨Z,0,O⟩) c.n b,I J (zdR S),I J 0,.pointer (E ⟨s1,0,O⟩),.pointer (E ⟨C,0,O⟩),.pointer (E ⟨j1,0,O⟩),.bool false] 94)=M at*
 obtain⟨bX,bi⟩:=ad.jrn
 have aU:=zd (zaw bi.disk (N+5) (by omega) (ud ag))
 have bg:∀k,zT M ⟨T.1.size,s1,q,r,C,z,y,.slice (E ⟨Z,0,O⟩) c.n b,j1,p⟩ k->foot p fs k\/w.1.size<=k:=fun k hk=>by
  rcases hk with(e|e|e|e|e)|e
  ·right;have:k=T.1.size:=e;omega
  ·exact o k (.inl e)
  ·exact o k (.inr (.inl e))
  ·exact o k (.inr (.inr (.inl e)))
  ·exact o k (.inr (.inr (.inr (.inl e))))
  ·have e2:fsB M p=ax.ownBlock:=by
    have hx:=(a6.disk.later aj).c0
    unfold fsB;rw[hx];rfl
   exact o k (.inr (.inr (.inr (.inr (e2.symm.trans e)))))
 have aC:zk (foot p fs) w M:=(ud a0).trans (zk.of_below (f:=foot p fs) ak) (fun _ _ h=>h)
 have aZ:=zd aC
 have aa:=zd bg
 have ab:=zd ad
 have c1:=ad.lt
 have c4:w.1.size<=M.1.size:=aC.size
 clear ad aC bg bi o ao a6 bq aj bF ak B a3 a4 a2 m l j bJ bh bM bO bp bj bL s0 s9 s8 j0 j9 j8 bU bI bH bG bE v u t bQ aJ aI aH a9 bC au aR aq aK aL a0 V1 V2 V3 U1 T1 aG aF aM B4 x0 x1 x2 x3 x4 x5 x6 y0 y1 y2 y3 y4 y5 y6 z0 z1 z2 z3 z4 z5 z6 t0 t1 t2 t3 t4 t5 t6
 refine(ud aU).mono ?_
 rintro e R ⟨rfl,hR⟩
 have G:Y M.1.size M R:=by rw[hR];exact(D _ _).alloc (H _) _
 have bl:R.1[M.1.size]?=E (.cells #[.string ((yN (Ym S) yk).extract 0 (zhE (yN (Ym S) yk)))] 9 (0,0)):=by rw[hR];exact zr _ _
 have a1:=zd (ud ah R ⟨T.1.size,s1,q,r,C,z,y,.slice (E ⟨Z,0,O⟩) c.n b,j1,p⟩ (zdR S) ⟨0,Ym S,false⟩ M.1.size ((ud ab).later G) bl (zgj (ud ab) G) (ud af _ R ((ud aZ).trans (zk.of_below (f:=foot p fs) G) (fun _ _ h=>h)) (fun k hk=>ud aa k (VG (ud ab) G k hk))))
 dsimp only at a1
 have aO:=zd (Kx.below (i:=⟨T.1.size,s1,q,r,C,z,y,.slice (E ⟨Z,0,O⟩) c.n b,j1,p⟩) G (ud ab).dlt)
 clear hR G bl aU ah af
 go_wp2_with fail
 refine(ud a1).mono ?_
 rintro e R2 ⟨rfl,ay,b0⟩
 have aw:=zd (YY ay (by unfold xR;omega) (ud aS) (by omega) (by omega) (N+5) (by omega) (ud ag))
 dsimp only at aw
 have bt:=zd ((ud aO).trans b0)
 have bS:=ay.lt
 dsimp only at bS
 clear ay b0 aO a1
 go_wp2_with fail
 refine(ud aw).mono ?_
 rintro e R3 ⟨ys,hp,rfl,ac,b5⟩
 rw[ud aV ys hp]
 have av:=zd (zbG ac.own hc (ud bw) bP bm bR)
 dsimp only at av
 have bA:=zd hp
 have bx:=zd ac
 have bu:=zd ((ud bt).trans b5)
 have bT:=ac.lt
 dsimp only at bT
 clear hp ac b5 aw
 go_wp2_with fail
 refine(ud av).mono ?_
 rintro e R4 ⟨rfl,bD,b8,b6,b9⟩
 have ba:=(ud bx).put b8 b6 (fun k e=> .inr (.inr (.inr (.inl e))))
 have aX:=zd ba
 have bz:=zd b9
 clear ba b8 b6 b9 av
 go_wp2_with fail
 refine bodyPost_ret (results_tmp2 rfl _ _ _) rfl ?_
 have b7:=(ud bu).trans (ud aX).2
 refine⟨⟨T.1.size,s1,q,r,C,z,y,.slice (E ⟨Z,0,O⟩) c.n b,j1,p⟩,ys,bD,rfl,rfl,ud bA,(ud aX).1,ud bz,(ud aZ).trans b7.kept (fun k hk e=>?_),fun k hk=>?_⟩
 ·rcases ud aa k e with h|h
  ·exact h
  ·omega
 ·rcases hk with e|e
  ·exact ud aa k (.inl e)
  ·rcases b7.fs k e with h|h
   ·exact ud aa k (.inr h)
   ·right;omega
end Go.Proofs.YtndhpgciopcncaaGreatDoor
