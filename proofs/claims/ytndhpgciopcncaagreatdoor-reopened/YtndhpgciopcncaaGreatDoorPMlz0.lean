import Derived.Test.YtndhpgciopcncaaGreatDoorPBrd2
import Derived.Test.YtndhpgciopcncaaGreatDoorPJrn0
open Go renaming World → J
set_option linter.unusedVariables false
namespace Go.Proofs.YtndhpgciopcncaaGreatDoor
open Go.RowKit Go.Maps Go.Shelf
structure Ids where
 x:Nat
 s:Nat
 lb:Nat
 gb:Nat
 b:Nat
 tb:Nat
 qb:Nat
 tv:Value
 j:Nat
 d:Nat
structure JM where
 st:Int
 S:DS
 dn:Bool
abbrev Qe(w:J):Prop:=Lib.TabIs Tryz.prog w "internal/strconv.uint64pow10" .u64 Lib.pow10Tab
noncomputable def Y4:Nat:=(Tryz.prog.globalNamed "internal/strconv.uint64pow10").getD 0
theorem Qe.lt{w:J}(h:Qe w):Y4<w.1.size:=by
 unfold Qe Lib.TabIs World.var? at h
 unfold Y4
 cases b:Tryz.prog.globalNamed "internal/strconv.uint64pow10" with
 |none=>rw[b]at h;simp at h
 |some g=>
  rw[b]at h
  show g<w.1.size
  rcases Nat.lt_or_ge g w.1.size with a|a
  ·exact a
  ·simp only[Option.bind_some]at h;rw[Array.getElem?_eq_none a]at h;simp at h
theorem Qe.same{w w':J}(h:Qe w)(a:w'.1[Y4]?=w.1[Y4]?):Qe w':=by
 unfold Qe Lib.TabIs World.var? at*
 unfold Y4 at a
 cases b:Tryz.prog.globalNamed "internal/strconv.uint64pow10" with
 |none=>rw[b]at h;simp at h
 |some g=>
  rw[b]at h a
  simp only[Option.bind_some,Option.getD_some]at h a ⊢
  rw[a];exact h
theorem Qe.kept{f:Nat->Prop}{w w':J}(h:Qe w)(a:zh f w w')(hn:¬f Y4):Qe w':=h.same (a.block _ h.lt hn)
def fsB(w:J)(d:Nat):Option Nat:=(w.cell? (U d 0)).bind Value.ownBlock
def znU(i:Ids)(k:Nat):Prop:=k=i.x\/jJ i.s i.tv i.lb i.gb k\/jT i.b i.tb i.qb k\/k=i.j\/k=i.d
def zG(w:J)(i:Ids)(k:Nat):Prop:=znU i k\/fsB w i.d=some k
structure zQ(w:J)(i:Ids)(c:Cf)(ep:Int)(m:MS)(q:JM):Prop where
 head:w.1[i.x]?=some (.cells #[I c.s,I c.le,I c.la,I c.wi,I c.ke,I c.qu,i.tv,I ep,I m.now,(O i.s),(O i.b),(O i.j),.bool q.dn] 94 (0,0))
 set:xE w i.s c i.tv i.lb i.gb m.Gl m.L
 board:zC w i.b c i.tv ep m.num i.tb i.qb m.TL m.QL
 jrn:∃fs,JAt w i.j i.d q.st q.S fs
 tab:Qe w
 a1:i.lb≠i.tb
 a2:i.lb≠i.qb
 a3:i.gb≠i.tb
 a4:i.gb≠i.qb
 tn:∀k,zG w i k->k≠Y4
theorem JAt.fsB{w:J}{j d:Nat}{st:Int}{S:DS}{fs:Value}(h:JAt w j d st S fs):fsB w d=fs.ownBlock:=by
 unfold Go.Proofs.YtndhpgciopcncaaGreatDoor.fsB;rw[h.disk.c0];rfl
structure Kx(i:Ids)(w w':J):Prop where
 kept:zh (zG w i) w w'
 fs:∀k,fsB w' i.d=some k->fsB w i.d=some k\/w.1.size<=k
theorem Kx.refl(i:Ids)(w:J):Kx i w w:=⟨zh.refl _ _,fun _ h=> .inl h⟩
theorem Kx.trans{i:Ids}{a b c:J}(h:Kx i a b)(k:Kx i b c):Kx i a c:=
 ⟨h.kept.trans k.kept (fun j f e=>by
  rcases e with e|e
  ·exact .inl e
  ·rcases h.fs j e with d|d
   ·exact .inr d
   ·omega),fun j f=>by
  rcases k.fs j f with d|d
  ·exact h.fs j d
  ·exact .inr (Nat.le_trans h.kept.size d)⟩
theorem Kx.size{i:Ids}{w w':J}(h:Kx i w w'):w.1.size<=w'.1.size:=h.kept.size
theorem Kx.of{i:Ids}{w w':J}(h:zh (znU i) w w')(a:w'.1[i.d]?=w.1[i.d]?):Kx i w w':=
 ⟨h.mono (fun k _ e=> .inl e),fun k b=> .inl (by
  have:fsB w' i.d=fsB w i.d:=by unfold fsB World.cell?;simp only[a]
  rw[<-this];exact b)⟩
theorem Kx.below{i:Ids}{w w':J}(h:Below w.1.size w w')(a:i.d<w.1.size):Kx i w w':=
 Kx.of (zh.of_below h) (h.block _ a)
theorem xD{α β:Type}{M:MK α β}{w:J}{b:Nat}{L:List (α×β)}(h:xe M w b L){k:Nat}{cs:Array Value}{t:TypeId}{c:Nat×Nat}(d:w.1[k]?=some (.cells cs t c)):b≠k:=fun e=>by
 obtain⟨g,f,a,_⟩:=h;rw[e,d]at a;cases a
theorem jM{w:J}{k:Nat}{cs b:Array Value}{t d:TypeId}{e c:Nat×Nat}(h:w.1[k]?=some (.cells cs t e))(a:w.1[k]?=some (.cells b d c)):t=d:=by
 rw[h]at a;injection a with a;injection a
section
variable {w:J} {i:Ids} {c:Cf} {ep:Int} {m:MS} {q:JM}
theorem zQ.lt(h:zQ w i c ep m q):i.x<w.1.size:=zd h.head
theorem zQ.dlt(h:zQ w i c ep m q):i.d<w.1.size:=by obtain⟨fs,a⟩:=h.jrn;exact a.disk.lt
theorem zQ.kept{f:Nat->Prop}{w':J}(h:zQ w i c ep m q)(a:zh f w w')(hn:∀k,zG w i k->¬f k)(n:¬f Y4):zQ w' i c ep m q:=by
 obtain⟨fs,l⟩:=h.jrn
 have b:=l.fsB
 have hj':JAt w' i.j i.d q.st q.S fs:=⟨a.heap l.head (hn _ (.inl (.inr (.inr (.inr (.inl rfl)))))),l.disk.kept a (fun k e=>by
  rcases e with e|e
  ·exact hn k (.inl (.inr (.inr (.inr (.inr e)))))
  ·exact hn k (.inr (b.trans e)))⟩
 exact⟨a.heap h.head (hn i.x (.inl (.inl rfl))),h.set.kept a (fun k g=>hn k (.inl (.inr (.inl g)))),h.board.kept a (fun k g=>hn k (.inl (.inr (.inr (.inl g))))),⟨fs,hj'⟩,h.tab.kept a n,h.a1,h.a2,h.a3,h.a4,fun k e=>h.tn k (by
  rcases e with e|e
  ·exact .inl e
  ·exact .inr (by rw[b,<-hj'.fsB];exact e))⟩
theorem zQ.later{w':J}(h:zQ w i c ep m q)(b:Below w.1.size w w'):zQ w' i c ep m q:=h.kept (f:=fun _=>False) (zh.of_below b) (fun _ _ a=>a) (fun a=>a)
theorem zQ.foot_lt(h:zQ w i c ep m q):∀k,zG w i k->k<w.1.size:=fun k a=>by
 obtain⟨fs,b⟩:=h.jrn
 rcases a with(rfl|a|a|rfl|rfl)|a
 ·exact h.lt
 ·exact h.set.foot_lt k a
 ·exact h.board.foot_lt k a
 ·exact zd b.head
 ·exact b.disk.lt
 ·rw[b.fsB]at a
  obtain⟨d,e⟩:=zH b.disk.row a
  exact zd e
end
end Go.Proofs.YtndhpgciopcncaaGreatDoor
