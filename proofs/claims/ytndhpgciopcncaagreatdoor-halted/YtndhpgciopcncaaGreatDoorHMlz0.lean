import Derived.Test.YtndhpgciopcncaaGreatDoorHBrd2
import Derived.Test.YtndhpgciopcncaaGreatDoorHJrn0
set_option linter.unusedVariables false
namespace Go.Proofs.YtndhpgciopcncaaGreatDoor
open Go.RowKit Go.Maps Go.Shelf
variable {cs:Array Value} {k:Nat} {f:Nat->Prop} {fr:Nat×Nat} {w w':World}
structure Ids where
 x:Nat
 s:Nat
 lb:Nat
 gb:Nat
 b:Nat
 tb:Nat
 qb:Nat
 tv:Value
 j:Nat
 d:Nat
structure JM where
 st:Int
 S:DS
 dn:Bool
abbrev Qo(w:World):Prop:=Lib.TabIs Tryz.prog w "internal/strconv.uint64pow10" .u64 Lib.pow10Tab
noncomputable def vR:Nat:=(Tryz.prog.globalNamed "internal/strconv.uint64pow10").getD 0
theorem Qo.lt(h:Qo w):vR<w.1.size:=by
 unfold Qo Lib.TabIs World.var? at h;unfold vR;cases b:Tryz.prog.globalNamed "internal/strconv.uint64pow10" with
 |none=>rw[b]at h;simp at h
 |some g=>
  rw[b]at h;show g<w.1.size;rcases Nat.lt_or_ge g w.1.size with a|a
  ·exact a
  ·simp only[Option.bind_some]at h;rw[Array.getElem?_eq_none a]at h;simp at h
theorem Qo.same(h:Qo w)(a:w'.1[vR]?=w.1[vR]?):Qo w':=by
 unfold Qo Lib.TabIs World.var? at*;unfold vR at a;cases b:Tryz.prog.globalNamed "internal/strconv.uint64pow10" with
 |none=>rw[b]at h;simp at h
 |some g=>
  rw[b]at h a;simp only[Option.bind_some,Option.getD_some]at h a ⊢;rw[a];exact h
theorem Qo.kept(h:Qo w)(a:zi f w w')(hn:¬f vR):Qo w':=h.same (a.block _ h.lt hn)
def fsB(w:World)(d:Nat):Option Nat:=(w.cell? (U d 0)).bind Value.ownBlock
def zov(i:Ids)(k:Nat):Prop:=k=i.x\/Z0 i.s i.tv i.lb i.gb k\/Zc i.b i.tb i.qb k\/k=i.j\/k=i.d
def zt(w:World)(i:Ids)(k:Nat):Prop:=zov i k\/fsB w i.d=some k
structure zO(w:World)(i:Ids)(c:Cf)(ep:Int)(m:MS)(q:JM):Prop where
 head:w.1[i.x]?=some (.cells #[I c.s,I c.le,I c.la,I c.wi,I c.ke,I c.qu,i.tv,I ep,I m.now,(O i.s),(O i.b),(O i.j),.bool q.dn] 94 (0,0))
 set:xI w i.s c i.tv i.lb i.gb m.Gl m.L
 board:zC w i.b c i.tv ep m.num i.tb i.qb m.TL m.QL
 jrn:∃fs,JAt w i.j i.d q.st q.S fs
 tab:Qo w
 a1:i.lb≠i.tb
 a2:i.lb≠i.qb
 a3:i.gb≠i.tb
 a4:i.gb≠i.qb
 tn:∀k,zt w i k->k≠vR
theorem JAt.fsB{j d:Nat}{st:Int}{S:DS}{fs:Value}(h:JAt w j d st S fs):fsB w d=fs.ownBlock:=by
 unfold Go.Proofs.YtndhpgciopcncaaGreatDoor.fsB;rw[h.disk.c0];rfl
structure Kx(i:Ids)(w w':World):Prop where
 kept:zi (zt w i) w w'
 fs:∀k,fsB w' i.d=some k->fsB w i.d=some k\/w.1.size<=k
theorem Kx.refl(i:Ids)(w:World):Kx i w w:=⟨zi.refl _ _,fun _ h=> .inl h⟩
variable {i:Ids}
theorem Kx.trans{a b c:World}(h:Kx i a b)(k:Kx i b c):Kx i a c:=
 ⟨h.kept.trans k.kept (fun j f e=>by
  rcases e with e|e
  ·exact .inl e
  ·rcases h.fs j e with d|d
   ·exact .inr d
   ·omega),fun j f=>by
  rcases k.fs j f with d|d
  ·exact h.fs j d
  ·exact .inr (Nat.le_trans h.kept.size d)⟩
theorem Kx.size(h:Kx i w w'):w.1.size<=w'.1.size:=h.kept.size
theorem Kx.of(h:zi (zov i) w w')(a:w'.1[i.d]?=w.1[i.d]?):Kx i w w':=
 ⟨h.mono (fun k _ e=> .inl e),fun k b=> .inl (by
  have:fsB w' i.d=fsB w i.d:=by unfold fsB World.cell?;simp only[a]
  rw[<-this];exact b)⟩
theorem Kx.below(h:Below w.1.size w w')(a:i.d<w.1.size):Kx i w w':=
 Kx.of (zi.of_below h) (h.block _ a)
theorem xH{α β:Type}{M:MK α β}{b:Nat}{L:List (α×β)}(h:xi M w b L){t:TypeId}(c:w.1[k]?=some (.cells cs t fr)):b≠k:=fun e=>by
 obtain⟨es,cl,a,_⟩:=h;rw[e,c]at a;cases a
theorem Z6{b:Array Value}{t d:TypeId}{c:Nat×Nat}(h:w.1[k]?=some (.cells cs t fr))(a:w.1[k]?=some (.cells b d c)):t=d:=by
 rw[h]at a;injection a with a;injection a
section
variable {w:World} {i:Ids} {c:Cf} {ep:Int} {m:MS} {q:JM}
theorem zO.lt(h:zO w i c ep m q):i.x<w.1.size:=zd h.head
theorem zO.dlt(h:zO w i c ep m q):i.d<w.1.size:=by obtain⟨fs,a⟩:=h.jrn;exact a.disk.lt
theorem zO.kept(h:zO w i c ep m q)(a:zi f w w')(hn:∀k,zt w i k->¬f k)(n:¬f vR):zO w' i c ep m q:=by
 obtain⟨fs,l⟩:=h.jrn;have b:=l.fsB;have hj':JAt w' i.j i.d q.st q.S fs:=⟨a.heap l.head (hn _ (.inl (.inr (.inr (.inr (.inl rfl)))))),l.disk.kept a (fun k e=>by
  rcases e with e|e
  ·exact hn k (.inl (.inr (.inr (.inr (.inr e)))))
  ·exact hn k (.inr (b.trans e)))⟩
 exact⟨a.heap h.head (hn i.x (.inl (.inl rfl))),h.set.kept a (fun k g=>hn k (.inl (.inr (.inl g)))),h.board.kept a (fun k g=>hn k (.inl (.inr (.inr (.inl g))))),⟨fs,hj'⟩,h.tab.kept a n,h.a1,h.a2,h.a3,h.a4,fun k e=>h.tn k (by
  rcases e with e|e
  ·exact .inl e
  ·exact .inr (by rw[b,<-hj'.fsB];exact e))⟩
theorem zO.later(h:zO w i c ep m q)(b:Below w.1.size w w'):zO w' i c ep m q:=h.kept (f:=fun _=>False) (zi.of_below b) (fun _ _ a=>a) (fun a=>a)
theorem zO.foot_lt(h:zO w i c ep m q):∀k,zt w i k->k<w.1.size:=fun k a=>by
 obtain⟨fs,b⟩:=h.jrn;rcases a with(rfl|a|a|rfl|rfl)|a
 ·exact h.lt
 ·exact h.set.foot_lt k a
 ·exact h.board.foot_lt k a
 ·exact zd b.head
 ·exact b.disk.lt
 ·rw[b.fsB]at a;obtain⟨d,e⟩:=zH b.disk.row a;exact zd e
end
end Go.Proofs.YtndhpgciopcncaaGreatDoor
