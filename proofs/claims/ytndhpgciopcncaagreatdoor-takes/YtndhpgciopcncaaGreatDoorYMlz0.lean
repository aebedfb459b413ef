import Derived.Test.YtndhpgciopcncaaGreatDoorYMod2
import Derived.Test.YtndhpgciopcncaaGreatDoorYBrd2
import Derived.Test.YtndhpgciopcncaaGreatDoorYJrn2
open Go renaming World → I
open Go.Value (int)
open Go.IntKind (i64)
set_option linter.unusedVariables false
namespace Go.Proofs.YtndhpgciopcncaaGreatDoor
open Go.RowKit Go.Maps Go.Shelf
structure Ids where
 x:Nat
 s:Nat
 lb:Nat
 gb:Nat
 b:Nat
 tb:Nat
 qb:Nat
 tv:Value
 j:Nat
 d:Nat
structure JM where
 st:Int
 S:DS
 dn:Bool
abbrev XN(w:I):Prop:=Lib.TabIs Tryz.prog w "internal/strconv.uint64pow10" .u64 Lib.pow10Tab
noncomputable def ZV:Nat:=(Tryz.prog.globalNamed "internal/strconv.uint64pow10").getD 0
theorem XN.lt{w:I}(h:XN w):ZV<w.1.size:=by
 unfold XN Lib.TabIs World.var? at h
 unfold ZV
 cases b:Tryz.prog.globalNamed "internal/strconv.uint64pow10" with
 |none=>rw[b]at h;simp at h
 |some g=>
  rw[b]at h
  show g<w.1.size
  rcases Nat.lt_or_ge g w.1.size with a|a
  ·exact a
  ·simp only[Option.bind_some]at h;rw[Array.getElem?_eq_none a]at h;simp at h
theorem XN.same{w w':I}(h:XN w)(a:w'.1[ZV]?=w.1[ZV]?):XN w':=by
 unfold XN Lib.TabIs World.var? at*
 unfold ZV at a
 cases b:Tryz.prog.globalNamed "internal/strconv.uint64pow10" with
 |none=>rw[b]at h;simp at h
 |some g=>
  rw[b]at h a
  simp only[Option.bind_some,Option.getD_some]at h a ⊢
  rw[a];exact h
theorem XN.kept{f:Nat->Prop}{w w':I}(h:XN w)(a:zk f w w')(hn:¬f ZV):XN w':=h.same (a.block _ h.lt hn)
def fsB(w:I)(d:Nat):Option Nat:=(w.cell? ⟨d,0,none⟩).bind Value.ownBlock
def zgF(i:Ids)(k:Nat):Prop:=k=i.x\/vy i.s i.tv i.lb i.gb k\/ZZ i.b i.tb i.qb k\/k=i.j\/k=i.d
def zT(w:I)(i:Ids)(k:Nat):Prop:=zgF i k\/fsB w i.d=some k
structure zR(w:I)(i:Ids)(c:Cf)(ep:Int)(m:MS)(q:JM):Prop where
 head:w.1[i.x]?=some (.cells #[int i64 c.s,int i64 c.le,int i64 c.la,int i64 c.wi,int i64 c.ke,int i64 c.qu,i.tv,int i64 ep,int i64 m.now,.pointer (some ⟨i.s,0,none⟩),.pointer (some ⟨i.b,0,none⟩),.pointer (some ⟨i.j,0,none⟩),.bool q.dn] 94 (0,0))
 set:xl w i.s c i.tv i.lb i.gb m.Gl m.L
 board:zO w i.b c i.tv ep m.num i.tb i.qb m.TL m.QL
 jrn:∃fs,JAt w i.j i.d q.st q.S fs
 tab:XN w
 a1:i.lb≠i.tb
 a2:i.lb≠i.qb
 a3:i.gb≠i.tb
 a4:i.gb≠i.qb
 tn:∀k,zT w i k->k≠ZV
theorem JAt.fsB{w:I}{j d:Nat}{st:Int}{S:DS}{fs:Value}(h:JAt w j d st S fs):fsB w d=fs.ownBlock:=by
 unfold Go.Proofs.YtndhpgciopcncaaGreatDoor.fsB;rw[h.disk.c0];rfl
structure Kx(i:Ids)(w w':I):Prop where
 kept:zk (zT w i) w w'
 fs:∀k,fsB w' i.d=some k->fsB w i.d=some k\/w.1.size<=k
theorem Kx.refl(i:Ids)(w:I):Kx i w w:=⟨zk.refl _ _,fun _ h=> .inl h⟩
theorem Kx.trans{i:Ids}{a b c:I}(h:Kx i a b)(k:Kx i b c):Kx i a c:=
 ⟨h.kept.trans k.kept (fun j f e=>by
  rcases e with e|e
  ·exact .inl e
  ·rcases h.fs j e with d|d
   ·exact .inr d
   ·omega),fun j f=>by
  rcases k.fs j f with d|d
  ·exact h.fs j d
  ·exact .inr (Nat.le_trans h.kept.size d)⟩
theorem Kx.size{i:Ids}{w w':I}(h:Kx i w w'):w.1.size<=w'.1.size:=h.kept.size
theorem Kx.of{i:Ids}{w w':I}(h:zk (zgF i) w w')(a:w'.1[i.d]?=w.1[i.d]?):Kx i w w':=
 ⟨h.mono (fun k _ e=> .inl e),fun k b=> .inl (by
  have:fsB w' i.d=fsB w i.d:=by unfold fsB World.cell?;simp only[a]
  rw[<-this];exact b)⟩
theorem Kx.below{i:Ids}{w w':I}(h:Below w.1.size w w')(a:i.d<w.1.size):Kx i w w':=
 Kx.of (zk.of_below h) (h.block _ a)
theorem zZ{α β:Type}{M:MK α β}{w:I}{b:Nat}{L:List (α×β)}(h:xj M w b L){k:Nat}{cs:Array Value}{t:TypeId}{c:Nat×Nat}(d:w.1[k]?=some (.cells cs t c)):b≠k:=fun e=>by
 obtain⟨g,f,a,_⟩:=h;rw[e,d]at a;cases a
theorem yy{w:I}{k:Nat}{cs b:Array Value}{t d:TypeId}{e c:Nat×Nat}(h:w.1[k]?=some (.cells cs t e))(a:w.1[k]?=some (.cells b d c)):t=d:=by
 rw[h]at a;injection a with a;injection a
section
variable {w:I} {i:Ids} {c:Cf} {ep:Int} {m:MS} {q:JM}
theorem zR.lt(h:zR w i c ep m q):i.x<w.1.size:=zb h.head
theorem zR.dlt(h:zR w i c ep m q):i.d<w.1.size:=by obtain⟨fs,a⟩:=h.jrn;exact a.disk.lt
theorem zR.kept{f:Nat->Prop}{w':I}(h:zR w i c ep m q)(a:zk f w w')(hn:∀k,zT w i k->¬f k)(o:¬f ZV):zR w' i c ep m q:=by
 obtain⟨fs,n⟩:=h.jrn
 have b:=n.fsB
 have g:JAt w' i.j i.d q.st q.S fs:=⟨a.heap n.head (hn _ (.inl (.inr (.inr (.inr (.inl rfl)))))),n.disk.kept a (fun k e=>by
  rcases e with e|e
  ·exact hn k (.inl (.inr (.inr (.inr (.inr e)))))
  ·exact hn k (.inr (b.trans e)))⟩
 exact⟨a.heap h.head (hn i.x (.inl (.inl rfl))),h.set.kept a (fun k l=>hn k (.inl (.inr (.inl l)))),h.board.kept a (fun k l=>hn k (.inl (.inr (.inr (.inl l))))),⟨fs,g⟩,h.tab.kept a o,h.a1,h.a2,h.a3,h.a4,fun k e=>h.tn k (by
  rcases e with e|e
  ·exact .inl e
  ·exact .inr (by rw[b,<-g.fsB];exact e))⟩
theorem zR.later{w':I}(h:zR w i c ep m q)(b:Below w.1.size w w'):zR w' i c ep m q:=h.kept (f:=fun _=>False) (zk.of_below b) (fun _ _ a=>a) (fun a=>a)
theorem zR.foot_lt(h:zR w i c ep m q):∀k,zT w i k->k<w.1.size:=fun k a=>by
 obtain⟨fs,b⟩:=h.jrn
 rcases a with(rfl|a|a|rfl|rfl)|a
 ·exact h.lt
 ·exact h.set.foot_lt k a
 ·exact h.board.foot_lt k a
 ·exact zb b.head
 ·exact b.disk.lt
 ·rw[b.fsB]at a
  obtain⟨d,e⟩:=zz b.disk.row a
  exact zb e
end
end Go.Proofs.YtndhpgciopcncaaGreatDoor
