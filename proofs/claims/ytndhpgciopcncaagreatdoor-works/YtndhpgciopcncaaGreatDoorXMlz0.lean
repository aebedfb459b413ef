import Derived.Test.YtndhpgciopcncaaGreatDoorXBrd0
import Derived.Test.YtndhpgciopcncaaGreatDoorXJrn0
import Derived.Test.YtndhpgciopcncaaGreatDoorXRec0
open Option renaming some → J
open Go.RowKit.Below renaming refl → E
open Nat renaming le_refl → Q
open Go renaming World → Z
open Go.RowKit renaming Below → A
set_option linter.unusedVariables false
set_option maxRecDepth 20000
set_option maxHeartbeats 4000000
open Go.Proofs.Tryz
namespace Go.Proofs.YtndhpgciopcncaaGreatDoor
open Go.ChangeMaps (setBlock)
open Go.RowKit Go.Maps Go.Shelf
variable {cs:Array Value} {dn:Bool} {c:Cf} {S:DS} {ep num st:Int} {TL:List (Jk×Tsk)} {QL:List (Tok×Lse)} {d j k:Nat} {f:Nat->Prop} {fr:Nat×Nat} {fs:Value} {w w':Z}
structure Ids where
 x:Nat
 s:Nat
 lb:Nat
 gb:Nat
 b:Nat
 tb:Nat
 qb:Nat
 tv:Value
 j:Nat
 d:Nat
structure JM where
 st:Int
 S:DS
 dn:Bool
abbrev Yz(w:Z):Prop:=Lib.TabIs prog w "internal/strconv.uint64pow10" .u64 Lib.pow10Tab
noncomputable def Qt:Nat:=(prog.globalNamed "internal/strconv.uint64pow10").getD 0
theorem Yz.lt(h:Yz w):Qt<w.1.size:=by
 unfold Yz Lib.TabIs World.var? at h;unfold Qt;cases b:prog.globalNamed "internal/strconv.uint64pow10" with
 |none=>rw[b]at h;simp at h
 |some g=>
  rw[b]at h;show g<w.1.size;rcases Nat.lt_or_ge g w.1.size with a|a
  ·exact a
  ·simp only[Option.bind_some]at h;rw[Array.getElem?_eq_none a]at h;simp at h
theorem Yz.same(h:Yz w)(a:w'.1[Qt]?=w.1[Qt]?):Yz w':=by
 unfold Yz Lib.TabIs World.var? at*;unfold Qt at a;cases b:prog.globalNamed "internal/strconv.uint64pow10" with
 |none=>rw[b]at h;simp at h
 |some g=>
  rw[b]at h a;simp only[Option.bind_some,Option.getD_some]at h a ⊢;rw[a];exact h
theorem Yz.kept(h:Yz w)(a:zj f w w')(hn:¬f Qt):Yz w':=h.same (a.block _ h.lt hn)
def fsB(w:Z)(d:Nat):Option Nat:=(w.cell? (U d 0)).bind Value.ownBlock
def zlF(i:Ids)(k:Nat):Prop:=k=i.x\/ZE i.s i.tv i.lb i.gb k\/Ze i.b i.tb i.qb k\/k=i.j\/k=i.d
def xm(w:Z)(i:Ids)(k:Nat):Prop:=zlF i k\/fsB w i.d=J k
structure xe(w:Z)(i:Ids)(c:Cf)(ep:Int)(m:MS)(q:JM):Prop where
 head:w.1[i.x]?=J (.cells #[I c.s,I c.le,I c.la,I c.wi,I c.ke,I c.qu,i.tv,I ep,I m.now,(O i.s),(O i.b),(O i.j),.bool q.dn] 94 (0,0))
 set:xK w i.s c i.tv i.lb i.gb m.Gl m.L
 board:zN w i.b c i.tv ep m.num i.tb i.qb m.TL m.QL
 jrn:∃fs,JAt w i.j i.d q.st q.S fs
 tab:Yz w
 a1:i.lb≠i.tb
 a2:i.lb≠i.qb
 a3:i.gb≠i.tb
 a4:i.gb≠i.qb
 tn:∀k,xm w i k->k≠Qt
theorem JAt.fsB(h:JAt w j d st S fs):fsB w d=fs.ownBlock:=by
 unfold Go.Proofs.YtndhpgciopcncaaGreatDoor.fsB;rw[h.disk.c0];rfl
structure Kx(i:Ids)(w w':Z):Prop where
 kept:zj (xm w i) w w'
 fs:∀k,fsB w' i.d=J k->fsB w i.d=J k\/w.1.size<=k
variable {i:Ids}
theorem Kx.trans{a b c:Z}(h:Kx i a b)(k:Kx i b c):Kx i a c:=
 ⟨h.kept.trans k.kept (fun j f e=>by
  rcases e with e|e
  ·exact .inl e
  ·rcases h.fs j e with d|d
   ·exact .inr d
   ·omega),fun j f=>by
  rcases k.fs j f with d|d
  ·exact h.fs j d
  ·exact .inr (Nat.le_trans h.kept.size d)⟩
theorem Kx.size(h:Kx i w w'):w.1.size<=w'.1.size:=h.kept.size
theorem Kx.of(h:zj (zlF i) w w')(a:w'.1[i.d]?=w.1[i.d]?):Kx i w w':=
 ⟨h.mono (fun k _ e=> .inl e),fun k b=> .inl (by
  have:fsB w' i.d=fsB w i.d:=by unfold fsB World.cell?;simp only[a]
  rw[<-this];exact b)⟩
theorem Kx.below(h:B_ w w')(a:i.d<w.1.size):Kx i w w':=
 Kx.of (zj.of_below h) (h.block _ a)
theorem xE{α β:Type}{M:MK α β}{b:Nat}{L:List (α×β)}(h:xn M w b L){t:TypeId}(c:w.1[k]?=J (.cells cs t fr)):b≠k:=fun e=>by
 obtain⟨es,cl,a,_⟩:=h;rw[e,c]at a;cases a
theorem kK{b:Array Value}{t d:TypeId}{c:Nat×Nat}(h:w.1[k]?=J (.cells cs t fr))(a:w.1[k]?=J (.cells b d c)):t=d:=by
 rw[h]at a;injection a with a;injection a
section
variable {w:Z} {i:Ids} {c:Cf} {ep:Int} {m:MS} {q:JM}
theorem xe.lt(h:xe w i c ep m q):i.x<w.1.size:=zd h.head
theorem xe.dlt(h:xe w i c ep m q):i.d<w.1.size:=by obtain⟨fs,a⟩:=h.jrn;exact a.disk.lt
theorem xe.kept(h:xe w i c ep m q)(a:zj f w w')(hn:∀k,xm w i k->¬f k)(o:¬f Qt):xe w' i c ep m q:=by
 obtain⟨fs,n⟩:=h.jrn;have b:=n.fsB;have g:JAt w' i.j i.d q.st q.S fs:=⟨a.heap n.head (hn _ (.inl (.inr (.inr (.inr (.inl rfl)))))),n.disk.kept a (fun k e=>by
  rcases e with e|e
  ·exact hn k (.inl (.inr (.inr (.inr (.inr e)))))
  ·exact hn k (.inr (b.trans e)))⟩
 exact⟨a.heap h.head (hn i.x (.inl (.inl rfl))),h.set.kept a (fun k l=>hn k (.inl (.inr (.inl l)))),h.board.kept a (fun k l=>hn k (.inl (.inr (.inr (.inl l))))),⟨fs,g⟩,h.tab.kept a o,h.a1,h.a2,h.a3,h.a4,fun k e=>h.tn k (by
  rcases e with e|e
  ·exact .inl e
  ·exact .inr (by rw[b,<-g.fsB];exact e))⟩
theorem xe.later(h:xe w i c ep m q)(b:B_ w w'):xe w' i c ep m q:=h.kept (f:=fun _=>False) (zj.of_below b) (fun _ _ a=>a) (fun a=>a)
theorem xe.foot_lt(h:xe w i c ep m q):∀k,xm w i k->k<w.1.size:=fun k a=>by
 obtain⟨fs,b⟩:=h.jrn;rcases a with(rfl|a|a|rfl|rfl)|a
 ·exact h.lt
 ·exact h.set.foot_lt k a
 ·exact h.board.foot_lt k a
 ·exact zd b.head
 ·exact b.disk.lt
 ·rw[b.fsB]at a;obtain⟨d,e⟩:=zG b.disk.row a;exact zd e
end
section
variable {w:Z} {i:Ids} {c:Cf} {ep:Int} {m:MS} {q:JM}
def X7(i:Ids)(k:Nat):Prop:=k=i.x\/ZE i.s i.tv i.lb i.gb k\/Ze i.b i.tb i.qb k
theorem JAt.tag(h:JAt w j d st S fs):∀k,Zg j d fs k->∃cs t fr,w.1[k]?=J (.cells cs t fr)/\(t=216\/t=111\/t=113):=fun k a=>by
 rcases a with rfl|rfl|a
 ·exact⟨_,_,_,h.head,.inl rfl⟩
 ·exact⟨_,_,_,h.disk.head,.inr (.inl rfl)⟩
 ·obtain⟨b,c⟩:=zG h.disk.row a;exact⟨_,_,_,c,.inr (.inr rfl)⟩
theorem xe.otag(h:xe w i c ep m q):∀k,X7 i k->(∃cs t fr,w.1[k]?=J (.cells cs t fr)/\(t=94\/t=155\/t=80\/t=171))\/∃es cl,w.1[k]?=J (.map es cl):=fun k b=>by
 rcases b with rfl|(rfl|b|rfl|rfl)|(rfl|rfl|rfl)
 ·exact .inl ⟨_,_,_,h.head,.inl rfl⟩
 ·exact .inl ⟨_,_,_,h.set.head,.inr (.inl rfl)⟩
 ·obtain⟨d,e⟩:=zG h.set.trow b;exact .inl ⟨_,_,_,e,.inr (.inr (.inl rfl))⟩
 ·obtain⟨es,cl,a,_⟩:=qF.1 h.set.live;exact .inr ⟨es,cl,a⟩
 ·obtain⟨es,cl,a,_⟩:=h.set.gone;exact .inr ⟨es,cl,a⟩
 ·exact .inl ⟨_,_,_,h.board.head,.inr (.inr (.inr rfl))⟩
 ·obtain⟨es,cl,a,_⟩:=h.board.tg;exact .inr ⟨es,cl,a⟩
 ·obtain⟨es,cl,a,_⟩:=h.board.leases;exact .inr ⟨es,cl,a⟩
theorem xe.jo(h:xe w i c ep m q)(v:JAt w i.j i.d q.st q.S fs):∀k,Zg i.j i.d fs k->¬X7 i k:=fun k s u=>by
 obtain⟨cs,t,fr,l,o⟩:=v.tag k s;rcases h.otag k u with⟨p,x,r,f,g⟩|⟨es,cl,n⟩
 ·have e:=kK l f;rw[e]at o;rcases o with b|b|b<;>rcases g with a|a|a|a<;>(rw[b]at a;exact absurd a (by decide))
 ·rw[l]at n;cases n
theorem xe.x_set(h:xe w i c ep m q):∀k,ZE i.s i.tv i.lb i.gb k->k≠i.x:=fun k b e=>by
 subst e;have a:=h.head;rcases b with e|b|e|e
 ·rw[e,h.set.head]at a;cases a
 ·obtain⟨d,f⟩:=zG h.set.trow b;rw[f]at a;cases a
 ·exact xE (qF.1 h.set.live) a e.symm
 ·exact xE h.set.gone a e.symm
theorem xe.x_board(h:xe w i c ep m q):∀k,Ze i.b i.tb i.qb k->k≠i.x:=fun k f e=>by
 subst e;have a:=h.head;rcases f with e|e|e
 ·rw[e,h.board.head]at a;injection a with a;injection a with g d;exact absurd d (by decide)
 ·exact xE h.board.tg a e.symm
 ·exact xE h.board.leases a e.symm
theorem xe.parts(h:xe w i c ep m q):∀k,ZE i.s i.tv i.lb i.gb k->¬Ze i.b i.tb i.qb k:=fun k l n=>by
 rcases n with e|e|e
 ·have a:=h.board.head;rw[<-e]at a;rcases l with e|j|e|e
  ·rw[e,h.set.head]at a;cases a
  ·obtain⟨d,g⟩:=zG h.set.trow j;rw[g]at a;cases a
  ·exact xE (qF.1 h.set.live) a e.symm
  ·exact xE h.set.gone a e.symm
 ·rcases l with f|j|f|f
  ·exact xE h.board.tg h.set.head (by omega)
  ·obtain⟨d,g⟩:=zG h.set.trow j;exact xE h.board.tg g e.symm
  ·exact h.a1 (by omega)
  ·exact h.a3 (by omega)
 ·rcases l with f|j|f|f
  ·exact xE h.board.leases h.set.head (by omega)
  ·obtain⟨d,g⟩:=zG h.set.trow j;exact xE h.board.leases g e.symm
  ·exact h.a2 (by omega)
  ·exact h.a4 (by omega)
theorem ziO{i:Ids}(h:X7 i k):zlF i k:=by
 rcases h with h|h|h
 ·exact .inl h
 ·exact .inr (.inl h)
 ·exact .inr (.inr (.inl h))
theorem xe.jkept(h:xe w i c ep m q)(a:zj f w w')(l:∀k,f k->X7 i k):(∃fs,JAt w' i.j i.d q.st q.S fs)/\Yz w'/\(∀k,xm w' i k->k≠Qt)/\Kx i w w':=by
 obtain⟨fs,b⟩:=h.jrn;have hn:∀k,Zg i.j i.d fs k->¬f k:=fun k a e=>h.jo b k a (l k e);have g:JAt w' i.j i.d q.st q.S fs:=⟨a.heap b.head (hn _ (.inl rfl)),b.disk.kept a (fun k e=>hn k (.inr e))⟩;refine⟨⟨fs,g⟩,h.tab.kept a (fun e=>h.tn _ (.inl (ziO (l _ e))) rfl),fun k e=>h.tn k ?_,Kx.of (a.mono (fun k _ e=>ziO (l k e))) ((a.block _ b.disk.lt (hn _ (.inr (.inl rfl)))))⟩;rcases e with e|e
 ·exact .inl e
 ·exact .inr (by rw[b.fsB,<-g.fsB];exact e)
theorem xe.setNow(h:xe w i c ep m q)(n:Int):xe (w.setCell (U i.x 8) (I n)) i c ep {m with now:=n} q/\Kx i w (w.setCell (U i.x 8) (I n)):=by
 have b:zj (fun k=>k=i.x) w (w.setCell (U i.x 8) (I n)):=zk (zj.refl _ _) rfl;obtain⟨d,f,g,j⟩:=h.jkept b (fun k e=> .inl e);exact⟨⟨xq (i:=8) h.head (I n),h.set.kept b (fun k a=>h.x_set k a),h.board.kept b (fun k a=>h.x_board k a),d,f,h.a1,h.a2,h.a3,h.a4,g⟩,j⟩
theorem xe.setDown(h:xe w i c ep m q):xe (w.setCell (U i.x 12) (.bool true)) i c ep m {q with dn:=true}/\Kx i w (w.setCell (U i.x 12) (.bool true)):=by
 have b:zj (fun k=>k=i.x) w (w.setCell (U i.x 12) (.bool true)):=zk (zj.refl _ _) rfl;obtain⟨d,f,g,j⟩:=h.jkept b (fun k e=> .inl e);exact⟨⟨xq (i:=12) h.head (.bool true),h.set.kept b (fun k a=>h.x_set k a),h.board.kept b (fun k a=>h.x_board k a),d,f,h.a1,h.a2,h.a3,h.a4,g⟩,j⟩
theorem xe.putBoard(h:xe w i c ep m q)(l:zN w' i.b c i.tv ep num i.tb i.qb TL QL)(a:zj (Ze i.b i.tb i.qb) w w'):xe w' i c ep {m with num:=num,TL:=TL,QL:=QL} q/\Kx i w w':=by
 obtain⟨d,f,g,j⟩:=h.jkept a (fun k e=> .inr (.inr e));exact⟨⟨a.heap h.head (fun e=>h.x_board _ e rfl),h.set.kept a (fun k n=>h.parts k n),l,d,f,h.a1,h.a2,h.a3,h.a4,g⟩,j⟩
theorem xe.putSet(h:xe w i c ep m q){L:LV}{Gl:List (Sg×Unit)}(j:xK w' i.s c i.tv i.lb i.gb Gl L)(a:zj (ZE i.s i.tv i.lb i.gb) w w'):xe w' i c ep {m with L:=L,Gl:=Gl} q/\Kx i w w':=by
 obtain⟨b,d,f,g⟩:=h.jkept a (fun k e=> .inr (.inl e));exact⟨⟨a.heap h.head (fun e=>h.x_set _ e rfl),j,h.board.kept a (fun k l e=>h.parts k e l),b,d,h.a1,h.a2,h.a3,h.a4,f⟩,g⟩
theorem xe.putJrn(h:xe w i c ep m q)(f:JAt w i.j i.d q.st q.S fs){n:Int}{S':DS}(s:JEnd w w' i.j i.d fs n S'):xe w' i c ep m {q with st:=n,S:=S'}/\Kx i w w':=by
 obtain⟨o,a,g,hn⟩:=s;have b:=h.jo f;have t:=h.tab.lt;have l:¬Zg i.j i.d fs Qt:=fun e=>by
  rcases e with e|e|e
  ·exact h.tn _ (.inl (.inr (.inr (.inr (.inl e))))) rfl
  ·exact h.tn _ (.inl (.inr (.inr (.inr (.inr e))))) rfl
  ·exact h.tn _ (.inr (f.fsB.trans e)) rfl
 refine⟨⟨g.heap h.head (fun e=>b _ e (.inl rfl)),h.set.kept g (fun k p e=>b k e (.inr (.inl p))),h.board.kept g (fun k p e=>b k e (.inr (.inr p))),⟨o,a⟩,h.tab.kept g l,h.a1,h.a2,h.a3,h.a4,fun k e=>?_⟩,⟨g.mono (fun k _ e=>?_),fun k e=>?_⟩⟩
 ·rcases e with e|e
  ·exact h.tn k (.inl e)
  ·rw[a.fsB]at e;rcases hn k e with r|r
   ·exact h.tn k (.inr (f.fsB.trans r))
   ·omega
 ·rcases e with e|e|e
  ·exact .inl (.inr (.inr (.inr (.inl e))))
  ·exact .inl (.inr (.inr (.inr (.inr e))))
  ·exact .inr (f.fsB.trans e)
 ·rw[a.fsB]at e;rw[f.fsB];exact hn k e
end
structure qk(dn:Bool)(w:Z)(i:Ids)(c:Cf)(ep:Int)(m:MS):Prop where
 head:w.1[i.x]?=J (.cells #[I c.s,I c.le,I c.la,I c.wi,I c.ke,I c.qu,i.tv,I ep,I m.now,(O i.s),(O i.b),(O i.j),.bool dn] 94 (0,0))
 set:xK w i.s c i.tv i.lb i.gb m.Gl m.L
 board:zN w i.b c i.tv ep m.num i.tb i.qb m.TL m.QL
 a1:i.lb≠i.tb
 a2:i.lb≠i.qb
 a3:i.gb≠i.tb
 a4:i.gb≠i.qb
section
variable {dn:Bool} {w:Z} {i:Ids} {c:Cf} {ep:Int} {m:MS}
theorem qk.lt(h:qk dn w i c ep m):i.x<w.1.size:=zd h.head
theorem qk.kept(h:qk dn w i c ep m)(b:zj f w w')(hn:∀k,X7 i k->¬f k):qk dn w' i c ep m:=
 ⟨b.heap h.head (hn i.x (.inl rfl)),h.set.kept b (fun k a=>hn k (.inr (.inl a))),h.board.kept b (fun k a=>hn k (.inr (.inr a))),h.a1,h.a2,h.a3,h.a4⟩
theorem qk.later(h:qk dn w i c ep m)(a:B_ w w'):qk dn w' i c ep m:=h.kept (f:=fun _=>False) (zj.of_below a) (fun _ _ b=>b)
theorem qk.foot_lt(h:qk dn w i c ep m):∀k,X7 i k->k<w.1.size:=fun k a=>by
 rcases a with rfl|a|a
 ·exact h.lt
 ·exact h.set.foot_lt k a
 ·exact h.board.foot_lt k a
theorem qk.cells(h:qk dn w i c ep m):w.cell? (U i.x 0)=J (I c.s)/\w.cell? (U i.x 1)=J (I c.le)/\w.cell? (U i.x 2)=J (I c.la)/\w.cell? (U i.x 3)=J (I c.wi)/\w.cell? (U i.x 4)=J (I c.ke)/\w.cell? (U i.x 5)=J (I c.qu)/\w.cell? (U i.x 6)=J i.tv/\w.cell? (U i.x 7)=J (I ep)/\w.cell? (U i.x 8)=J (I m.now)/\w.cell? (U i.x 9)=J (O i.s)/\w.cell? (U i.x 10)=J (O i.b):=by
 refine⟨?_,?_,?_,?_,?_,?_,?_,?_,?_,?_,?_⟩<;>rw[xd h.head]<;>rfl
theorem qk.x_board(h:qk dn w i c ep m):∀k,Ze i.b i.tb i.qb k->k≠i.x:=fun k f e=>by
 subst e;have a:=h.head;rcases f with e|e|e
 ·rw[e,h.board.head]at a;injection a with a;injection a with g d;exact absurd d (by decide)
 ·exact xE h.board.tg a e.symm
 ·exact xE h.board.leases a e.symm
theorem qk.parts(h:qk dn w i c ep m):∀k,ZE i.s i.tv i.lb i.gb k->¬Ze i.b i.tb i.qb k:=fun k l n=>by
 rcases n with e|e|e
 ·have a:=h.board.head;rw[<-e]at a;rcases l with e|j|e|e
  ·rw[e,h.set.head]at a;cases a
  ·obtain⟨d,g⟩:=zG h.set.trow j;rw[g]at a;cases a
  ·exact xE (qF.1 h.set.live) a e.symm
  ·exact xE h.set.gone a e.symm
 ·rcases l with f|j|f|f
  ·exact xE h.board.tg h.set.head (by omega)
  ·obtain⟨d,g⟩:=zG h.set.trow j;exact xE h.board.tg g e.symm
  ·exact h.a1 (by omega)
  ·exact h.a3 (by omega)
 ·rcases l with f|j|f|f
  ·exact xE h.board.leases h.set.head (by omega)
  ·obtain⟨d,g⟩:=zG h.set.trow j;exact xE h.board.leases g e.symm
  ·exact h.a2 (by omega)
  ·exact h.a4 (by omega)
theorem qk.putBoard(h:qk dn w i c ep m)(d:zN w' i.b c i.tv ep num i.tb i.qb TL QL)(a:zj (Ze i.b i.tb i.qb) w w'):qk dn w' i c ep {m with num:=num,TL:=TL,QL:=QL}:=
 ⟨a.heap h.head (fun e=>h.x_board _ e rfl),h.set.kept a (fun k f=>h.parts k f),d,h.a1,h.a2,h.a3,h.a4⟩
theorem qk.ts(h:qk dn w i c ep m):∃a cap,i.tv=.slice a c.n cap/\TS w a c.n c.F c.W c.K:=by
 obtain⟨a,cap,e⟩:=zq h.set.trow;exact⟨a,cap,e,TS.of_owns (e▸h.set.trow)⟩
theorem qk.cells2(h:qk dn w i c ep m):w.cell? (U i.x 11)=J (O i.j)/\w.cell? (U i.x 12)=J (.bool dn):=by
 refine⟨?_,?_⟩<;>rw[xd h.head]<;>rfl
end
section
variable {w:Z} {i:Ids} {c:Cf} {ep:Int} {m:MS} {q:JM}
theorem xe.own(h:xe w i c ep m q):qk q.dn w i c ep m:=⟨h.head,h.set,h.board,h.a1,h.a2,h.a3,h.a4⟩
theorem xe.put{m':MS}(h:xe w i c ep m q)(a:qk q.dn w' i c ep m')(l:zj f w w')(j:∀k,f k->X7 i k):xe w' i c ep m' q/\Kx i w w':=by
 obtain⟨b,d,e,g⟩:=h.jkept l j;exact⟨⟨a.head,a.set,a.board,b,d,h.a1,h.a2,h.a3,h.a4,e⟩,g⟩
end
def ka(u q:Int):Bool:=decide (3*q<4*u)
theorem zqx(v:Value)(w:Z):(Instr.typeAssert (.iface 195 v) 99 195 true).run prog w=.ok (.tuple #[v,.bool true]) w:=by kernel_rfl
theorem zqw(v:Value)(w:Z):(Instr.typeAssert (.iface 197 v) 99 195 true).run prog w=.ok (.tuple #[.agg #[I 0,I 0,I 0],.bool false]) w:=by kernel_rfl
theorem zqv(v:Value)(w:Z):(Instr.typeAssert (.iface 197 v) 99 197 true).run prog w=.ok (.tuple #[v,.bool true]) w:=by kernel_rfl
variable {m:MS}
theorem JC(h:qk dn w i c ep m)(q:c.ok)(t:0<=xh m.L/\xh m.L<=1000):
  Calls prog 45 #[(O i.x)] w (Rz w (.bool (ka (xh m.L) c.qu))):=by
 obtain⟨a,cap,j,g⟩:=h.ts;obtain⟨B,C,D,F,G,H,n,-,-,I,-⟩:=h.cells;rw[j]at n;have z:=h.lt;obtain⟨r,s⟩:=q.qu;have l:=fun W p=>ze (Ql ((h.later (w':=W) p).set) (by unfold xX;omega));have k:=fun W=>ze (QR c a cap W);obtain⟨v,y⟩:=t;unfold ka;generalize xh m.L=U9 at*;clear h g;go_in;go_wp2_with fail;have f:Nonempty (zm w.1.size w):=zm.some _ _;have e:=fun(u:zm w.1.size w) b o h=>u.cell b o h;refine zh w.1.size (by kernel_rfl) (by kernel_rfl) ?_;repeat(go_big_quiet_step (first
  |(go_at_call 43;exact Calls.later (Q _) (l _ (Subtype.property _)))
  |(go_at_call 63;exact Calls.later (Q _) (k _))))
 refine wpQuiet_nil ?_;rintro⟨w1,d⟩;clear e f;dsimp only;go_wp2_with fail;go_ret;exact⟨rfl,d⟩
def MS.took(m:MS)(now:Int)(xs:List SX):MS:={m with now:=now,L:=(vj (m.Gl,m.L) xs).2,Gl:=(vj (m.Gl,m.L) xs).1}
theorem zmw{q:JM}(h:xe w i c ep m q)(now:Int)(xs:List SX)(u:∀x∈xs,x.1.wf)(T:m.Gl.length+xs.length<=1000000000)(X:m.L.length+xs.length<=1000000000)(base:Nat)(v:Value)(hv:Zd w base v xs):
  Calls prog 109 #[(O i.x),.agg #[I now,v]] w fun e w'=>e=.returned (.tuple #[])/\xe w' i c ep (m.took now xs) q/\Kx i w w':=by
 obtain⟨ad,cap,rfl⟩:=hv.slice;obtain⟨n,j⟩:=h.setNow now;have r:(w.setCell (U i.x 8) (I now)).1.size=w.1.size:=by simp
 obtain⟨Y,f⟩:∃Y,(w.setCell (U i.x 8) (I now)).alloc (.cells #[I now,.slice ad xs.length cap] 190)=Y:=⟨_,rfl⟩;have g:A (w.setCell (U i.x 8) (I now)).1.size (w.setCell (U i.x 8) (I now)) Y:=by rw[<-f];exact(E _ _).alloc (Q _) _
 have o:Y.1[w.1.size]?=J (.cells #[I now,.slice ad xs.length cap] 190 (0,0)):=by rw[<-f,<-r];exact zo _ _
 have d:=n.later g;have l:=j.trans (Kx.below g n.dlt);have a3:¬w.1.size=i.x:=by have:=h.lt;omega
 have a0:¬i.x=w.1.size:=by have:=h.lt;omega
 have a4:=h.lt;obtain⟨-,-,-,-,-,-,-,-,x8,-⟩:=zc h.head;have xf:=zI h.head 8;obtain⟨-,y1,-⟩:=zc o;obtain⟨-,-,-,-,-,-,-,-,-,y9,-⟩:=zc d.head;have p:zj (fun k=>k=i.x) w (w.setCell (U i.x 8) (I now)):=zk (zj.refl _ _) rfl;have t:Zd Y base (.slice ad xs.length cap) xs:=zY (zi hv p (fun k hk e=>by
  obtain⟨a2,hc⟩:=zG hv hk;rw[e]at hc;exact absurd (kK h.head hc) (by decide))) g
 have N:=fun W (hW:B_ Y W)=>ze (zlW (d.later hW).set xs u T X base _ (zY t hW));have P:=N Y (E _ _);have R:=N Y.drew (E _ _).drew;have K:=ze d;have M:=ze (d.later (w':=Y.drew) (E _ _).drew);have G:=ze l;have H:=ze (l.trans (Kx.below (w':=Y.drew) (E _ _).drew d.dlt));have a1:=ze d.foot_lt;have z:¬i.x=i.lb:=fun e=>d.x_set i.lb (.inr (.inr (.inl rfl))) e.symm;have B:¬i.x=i.gb:=fun e=>d.x_set i.gb (.inr (.inr (.inr rfl))) e.symm;have C:¬w.1.size=i.lb:=fun e=>by have:=h.foot_lt i.lb (.inl (.inr (.inl (.inr (.inr (.inl rfl))))));omega
 have D:¬w.1.size=i.gb:=fun e=>by have:=h.foot_lt i.gb (.inl (.inr (.inl (.inr (.inr (.inr rfl))))));omega
 have lY:w.1.size<Y.1.size:=zd o;have y:=d.lt;have S:=ze f;clear h d n l j g o f p t hv N u r;go_in;go_wp2_with fail;rw[ud S];go_region_held3 (fun w'=>w'.cell? (U i.x 9)=J (O i.s)/\w'.cell? (U w.1.size 1)=J (.slice ad xs.length cap)) (go_keep) (first
  |(go_at_call 170;(with_reducible refine(ud P).mono ?_);rintro e V ⟨rfl,b,a⟩;have v9:=(zD (i:=9) a (fun e=>e.elim z B) y).trans y9;have v1:=(zD (i:=1) a (fun e=>e.elim C D) lY).trans y1;have F:=ze (K.putSet b (a.mono (fun k _ e=>e.elim (fun e=> .inr (.inr (.inl e))) (fun e=> .inr (.inr (.inr e))))));have HK:=ze (G.trans F.2);clear b a)
  |(go_at_call 170;(with_reducible refine(ud R).mono ?_);rintro e V ⟨rfl,b,a⟩;have v9:=(zD (i:=9) a (fun e=>e.elim z B) y).trans y9;have v1:=(zD (i:=1) a (fun e=>e.elim C D) lY).trans y1;have F:=ze (M.putSet b (a.mono (fun k _ e=>e.elim (fun e=> .inr (.inr (.inl e))) (fun e=> .inr (.inr (.inr e))))));have HK:=ze (H.trans F.2);clear b a))
 all_goals go_wp2_with fail
 all_goals go_end0
 all_goals exact⟨rfl,F.1,HK⟩
theorem zfa(V:Z)(base:Nat)(a:base<=V.1.size)(x:SX):Zd (V.alloc (.cells (xZz x) 148)) base (.slice (J (U V.1.size 0)) 1 1) [x]:=by
 unfold Zd;exact YO (n:=1) (xs:=[x].flatMap xD) (zo _ _) (by simp[xD]) (by omega) (by simp[maxLen]) a
theorem zhR(h:qk dn w i c ep m)(M:c.ok)(s:Sg)(N:inR c s)(k:Nat)(B:s.t=k):
  Calls prog 53 #[(O i.x),.iface 195 (.agg #[I s.t,I s.se,I s.we])] w fun e w'=>∃v,e=.returned v/\Zd w' w.1.size v [(s,⟨3,xP (xM c m.L s.se s.we k)⟩)]/\B_ w w':=by
 obtain⟨t,se,we⟩:=s;dsimp only at B;subst B;obtain⟨⟨ha,K,hw⟩,Y,h2,F,G⟩:=N;dsimp only at*;generalize l:xP (xM c m.L se we k)=C;obtain⟨X,d⟩:∃X,w.alloc (.cells #[I k,I se,I we] 195)=X:=⟨_,rfl⟩;have j:B_ w X:=by rw[<-d];exact(E _ _).alloc (Q _) _
 have z:X.1[w.1.size]?=J (.cells #[I k,I se,I we] 195 (0,0)):=by rw[<-d];exact zo _ _
 have o:=h.later j;obtain⟨-,-,-,-,-,-,-,-,-,D,-⟩:=o.cells;have n:=o.lt;have f:=zd z;obtain⟨R,S,T,-⟩:=zc z;have g:=fun W (H:B_ X W)=>ze (zgR (o.later H).set M k (by omega) se we K ⟨F,G⟩ C l);have q:=g X (E _ _);have r:=g X.drew (E _ _).drew;have P:=fun W=>zqx (.agg #[I k,I se,I we]) W;have y:=ze d;have b:=ze j;clear h o d j z g l;go_in;go_wp2_with fail;rw[ud y];go_region_held3 (fun w'=>w'.cell? (U i.x 9)=J (O i.s)/\w'.cell? (U w.1.size 0)=J (I k)/\w'.cell? (U w.1.size 1)=J (I se)/\w'.cell? (U w.1.size 2)=J (I we)) (go_keep) (first
  |(go_at_call 111;(first|(with_reducible refine(ud q).mono ?_)|(with_reducible refine(ud r).mono ?_));rintro e V ⟨rfl,a⟩;have hv:B_ X V:=⟨a.os,a.tape,a.output,a.size,a.block⟩;clear a;have v9:=(hv.cell (p:=(U i.x 9)) n).trans D;have v0:=(hv.cell (p:=(U w.1.size 0)) f).trans R;have v1:=(hv.cell (p:=(U w.1.size 1)) f).trans S;have v2:=(hv.cell (p:=(U w.1.size 2)) f).trans T;have lx:=Nat.lt_of_lt_of_le n hv.size;have lq:=Nat.lt_of_lt_of_le f hv.size;have u:=ze hv;clear hv))
 all_goals go_wp2_with fail
 all_goals go_ret
 all_goals exact⟨_,rfl,zfa V w.1.size (Nat.le_trans b.size u.size) (⟨k,se,we⟩,⟨3,C⟩),(b.trans (u.mono b.size)).alloc (Nat.le_trans b.size u.size) _⟩
theorem zhQ(h:qk dn w i c ep m)(s:Sg):
  Calls prog 53 #[(O i.x),.iface 197 (.agg #[I s.t,I s.se,I s.we])] w fun e w'=>∃v,e=.returned v/\Zd w' w.1.size v [(s,⟨4,qL⟩)]/\B_ w w':=by
 obtain⟨t,se,we⟩:=s;dsimp only at*;obtain⟨X,a⟩:∃X,w.alloc (.cells #[I t,I se,I we] 197)=X:=⟨_,rfl⟩;have f:B_ w X:=by rw[<-a];exact(E _ _).alloc (Q _) _
 have g:X.1[w.1.size]?=J (.cells #[I t,I se,I we] 197 (0,0)):=by rw[<-a];exact zo _ _
 have j:=zd g;obtain⟨o,p,q,-⟩:=zc g;have l:=fun W=>zqw (.agg #[I t,I se,I we]) W;have k:=fun W=>zqv (.agg #[I t,I se,I we]) W;have d:=ze a;have b:=ze f;clear h a f g;go_in;go_wp2_with fail;rw[ud d];go_ret;have n:X.1.size=w.1.size+1:=by rw[<-ud d];exact zE _ _
 rw[<-n];exact⟨_,rfl,zfa X w.1.size b.size (⟨t,se,we⟩,⟨4,qL⟩),b.alloc b.size _⟩
theorem z11{g:Nat}{a0 a1 a2 a3 a4 a5 a6 a7 b a9 a:Value}{t:TypeId}(h:w.1[g]?=J (.cells #[a0,a1,a2,a3,a4,a5,a6,a7,b,a9,a] t fr)):w.cell? (U g 0)=J a0/\w.cell? (U g 1)=J a1/\w.cell? (U g 2)=J a2/\w.cell? (U g 3)=J a3/\w.cell? (U g 4)=J a4/\w.cell? (U g 5)=J a5/\w.cell? (U g 6)=J a6/\w.cell? (U g 7)=J a7/\w.cell? (U g 8)=J b/\w.cell? (U g 9)=J a9/\w.cell? (U g 10)=J a:=by
 refine⟨?_,?_,?_,?_,?_,?_,?_,?_,?_,?_,?_⟩<;>rw[xd h]<;>rfl
theorem zqb{X V:Z}(h:A X.drew.1.size X.drew V):B_ X V:=⟨h.os,h.tape,h.output,h.size,h.block⟩
abbrev zgg:Value:=.agg #[I 0,I 0,I 0,I 0,I 0,I 0,I 0,I 0,I 0,I 0,I 0]
theorem zfz(h:qk dn w i c ep m)(t:Tok)(G:t.wf)(p:zU m.QL t=none):
  Calls prog 20 #[(O i.x),.agg #[I t.ep,I t.num]] w (Rz w (I 8)):=by
 have a:B_ w (w.alloc (.cells #[I t.ep,I t.num] 49)):=(E _ _).alloc (Q _) _;have v:=zo w (.cells #[I t.ep,I t.num] 49);have B:=zE w (.cells #[I t.ep,I t.num] 49);have l:=h.later a;obtain⟨-,-,-,-,-,-,-,-,M,-,C⟩:=l.cells;have H:=l.lt;have F:=zd v;obtain⟨P,R,-⟩:=zc v;have g:(⟨(yU (zU m.QL t)).kd,(yU (zU m.QL t)).s⟩:Jk).wf:=by rw[p];refine⟨?_,?_,?_,?_⟩<;>(unfold xX yU;simp)
 have j:=fun W D=>ze (jW ((h.later (w':=W) D).board) t G g);simp only[p,Option.isSome_none]at j;generalize zmR (zU m.TL ⟨(yU none).kd,(yU none).s⟩)=L at j;have d:=ze a;have y:=ze B;clear h l a v B g p;go_in;go_wp2_with fail;have S:w.1.size<w.1.size+1:=by omega
 have T:i.x<w.1.size+1:=by have:=ud y;omega
 generalize(w.alloc (.cells #[I t.ep,I t.num] 49))=X at*;generalize z:w.1.size+1=N at*;have r:Nonempty (zm N X):=zm.some _ _;have q:=fun(u:zm N X) b o h=>u.cell b o h;have f:N<=X.1.size:=by rw[ud y];exact Q _
 have k:=ze f;have e:Hid (w.1.size<=N):=by show w.1.size<=N;omega
 have K:=ze z;clear f z;refine zh N (by kernel_rfl) (by kernel_rfl) ?_;repeat(go_big_quiet_step (first
  |(go_at_call 51;exact Calls.later k (ud (j _ (d.trans (Below.mono (Subtype.property _) e)))))))
 refine wpQuiet_nil ?_;rintro⟨w1,n⟩;clear q r;dsimp only;go_wp2_with fail;go_ret;exact⟨rfl,d.trans (n.mono e)⟩
theorem zlh(h:qk dn w i c ep m)(t:Tok)(G:t.wf)(p:zU m.QL t=none):
  Calls prog 21 #[(O i.x),.agg #[I t.ep,I t.num]] w (Rz w (I 8)):=by
 have a:B_ w (w.alloc (.cells #[I t.ep,I t.num] 49)):=(E _ _).alloc (Q _) _;have v:=zo w (.cells #[I t.ep,I t.num] 49);have B:=zE w (.cells #[I t.ep,I t.num] 49);have l:=h.later a;obtain⟨-,-,-,-,-,-,-,-,M,-,C⟩:=l.cells;have H:=l.lt;have F:=zd v;obtain⟨P,R,-⟩:=zc v;have g:(⟨(yU (zU m.QL t)).kd,(yU (zU m.QL t)).s⟩:Jk).wf:=by rw[p];refine⟨?_,?_,?_,?_⟩<;>(unfold xX yU;simp)
 have j:=fun W D=>ze (jW ((h.later (w':=W) D).board) t G g);simp only[p,Option.isSome_none]at j;generalize zmR (zU m.TL ⟨(yU none).kd,(yU none).s⟩)=L at j;have d:=ze a;have y:=ze B;clear h l a v B g p;go_in;go_wp2_with fail;have S:w.1.size<w.1.size+1:=by omega
 have T:i.x<w.1.size+1:=by have:=ud y;omega
 generalize(w.alloc (.cells #[I t.ep,I t.num] 49))=X at*;generalize z:w.1.size+1=N at*;have r:Nonempty (zm N X):=zm.some _ _;have q:=fun(u:zm N X) b o h=>u.cell b o h;have f:N<=X.1.size:=by rw[ud y];exact Q _
 have k:=ze f;have e:Hid (w.1.size<=N):=by show w.1.size<=N;omega
 have K:=ze z;clear f z;refine zh N (by kernel_rfl) (by kernel_rfl) ?_;repeat(go_big_quiet_step (first
  |(go_at_call 51;exact Calls.later k (ud (j _ (d.trans (Below.mono (Subtype.property _) e)))))))
 refine wpQuiet_nil ?_;rintro⟨w1,n⟩;clear q r;dsimp only;go_wp2_with fail;go_ret;exact⟨rfl,d.trans (n.mono e)⟩
theorem zhY(h:qk false w i c ep m)(t:Tok)(ht:t.wf){g:Lse}(M:zU m.QL t=J g)(hj:g.job.wf){x:Tsk}(hx:zU m.TL g.job=J x)(F:0<=m.now/\m.now<=100000)(a4:0<=x.tc/\x.tc<=1000000)(ab:m.TL.length<=50000):
  Calls prog 21 #[(O i.x),.agg #[I t.ep,I t.num]] w fun e w'=>e=.returned (I 0)/\qk false w' i c ep {m with TL:=qM m.TL g.job (x.failed m.now),QL:=xB m.QL t}/\zj (X7 i) w w':=by
 have n:B_ w (w.alloc (.cells #[I t.ep,I t.num] 49)):=(E _ _).alloc (Q _) _;have P:=zo w (.cells #[I t.ep,I t.num] 49);have qz:=zE w (.cells #[I t.ep,I t.num] 49);have hX:=h.later n;obtain⟨-,-,-,-,-,-,-,-,c8,-,a0⟩:=hX.cells;have ac:=hX.lt;have aa:=zd P;obtain⟨k0,k1,-⟩:=zc P;have D:(⟨(yU (zU m.QL t)).kd,(yU (zU m.QL t)).s⟩:Jk).wf:=by rw[M];exact hj
 have L:=fun W hW=>ze (jW ((h.later (w':=W) hW).board) t ht D);generalize zmR (zU m.TL ⟨(yU (zU m.QL t)).kd,(yU (zU m.QL t)).s⟩)=JV at L;simp only[M,Option.isSome_some]at L;obtain⟨es,a7,G,K⟩:=h.board.leases;have r:=ze n;have QZ:=ze qz;have H:=ze h;have Q0:=ze P;have HG:=ze M;have Y:=ze hx;have j:=ze (And.intro G K);clear h hX n P qz D M hx G K;go_in;go_wp2_with fail;have p1:w.1.size<w.1.size+1:=by omega
 have p2:i.x<w.1.size+1:=by have:=ud QZ;omega
 generalize(w.alloc (.cells #[I t.ep,I t.num] 49))=X at*;generalize hN:w.1.size+1=N at*;have a3:Nonempty (zm N X):=zm.some _ _;have a2:=fun(u:zm N X) b o h=>u.cell b o h;have B:N<=X.1.size:=by rw[ud QZ];exact Q _
 have U:=ze B;have v:Hid (w.1.size<=N):=by show w.1.size<=N;omega
 have HN:=ze hN;clear B hN;refine zh N (by kernel_rfl) (by kernel_rfl) ?_;repeat(go_big_quiet_step (first
  |(go_at_call 51;exact Calls.later U (ud (L _ (r.trans (Below.mono (Subtype.property _) v)))))))
 refine wpQuiet_nil ?_;rintro⟨w1,l⟩;clear a2 a3;dsimp only;have d:=r.trans (l.mono v);have a:=ze (H.later d);have R:=ze d;have p:=(l.block _ (show w.1.size<N by have:=ud HN;omega)).trans Q0;obtain⟨-,-,-,-,-,-,-,-,e8,-,a8⟩:=a.cells;obtain⟨-,a9⟩:=a.cells2;obtain⟨t0,t1,-⟩:=zc p;have a5:=zd p;have a6:=a.lt;have S:=ze (zer ((a.later (E _ _).drew).board) t ht HG hj Y m.now F ⟨a4.1,by omega⟩ (by omega) ((d.block _ (zd j.1)).trans j.1) j.2);clear k0 k1 c8 a0 l d p L;go_wp2_with fail;refine qP 9 (by kernel_rfl) (by kernel_rfl) ?_;simp only[List.take_succ_cons,List.take_zero,List.drop_succ_cons,List.drop_zero];repeat still_step
 refine wpStill_nil ?_;go_wp2_with(first|(go_at_call 56;refine S.mono ?_;rintro e V2 ⟨rfl,y,z,-⟩;have V:=ze y;have T:=ze z;clear y z));go_ret;have C:zj (Ze i.b i.tb i.qb) w1 V2:=((zj.refl (Ze i.b i.tb i.qb) w1).drew).trans (T.mono (fun k _ e=> .inr e)) (fun _ _ e=>e);have a1:=a.putBoard V C;exact⟨rfl,a1,(zj.of_below (f:=X7 i) R).trans (C.mono (fun q _ e=> .inr (.inr e))) (fun _ _ e=>e)⟩
