import Derived.Test.YtndhpgciopcncaaGreatDoorUMlz0
open Go.Value (int)
open Go.IntKind (i64)
set_option linter.unusedVariables false
namespace Go.Proofs.YtndhpgciopcncaaGreatDoor
open Go.RowKit Go.Maps Go.Shelf
section
variable {w:World} {i:Ids} {c:Cf} {ep:Int} {m:MS} {q:JM}
def jm(i:Ids)(k:Nat):Prop:=k=i.x\/vp i.s i.tv i.lb i.gb k\/vv i.b i.tb i.qb k
theorem JAt.tag{j d:Nat}{st:Int}{S:DS}{fs:Value}(h:JAt w j d st S fs):∀k,vO j d fs k->∃cs t c,w.1[k]?=some (.cells cs t c)/\(t=216\/t=111\/t=113):=fun k a=>by
 rcases a with rfl|rfl|a
 ·exact⟨_,_,_,h.head,.inl rfl⟩
 ·exact⟨_,_,_,h.disk.head,.inr (.inl rfl)⟩
 ·obtain⟨b,e⟩:=zG h.disk.row a
  exact⟨_,_,_,e,.inr (.inr rfl)⟩
theorem zN.otag(h:zN w i c ep m q):∀k,jm i k->(∃cs t g,w.1[k]?=some (.cells cs t g)/\(t=94\/t=155\/t=80\/t=171))\/∃b a,w.1[k]?=some (.map b a):=fun k e=>by
 rcases e with rfl|(rfl|e|rfl|rfl)|(rfl|rfl|rfl)
 ·exact .inl ⟨_,_,_,h.head,.inl rfl⟩
 ·exact .inl ⟨_,_,_,h.set.head,.inr (.inl rfl)⟩
 ·obtain⟨f,j⟩:=zG h.set.trow e
  exact .inl ⟨_,_,_,j,.inr (.inr (.inl rfl))⟩
 ·obtain⟨b,a,d,_⟩:=xX.1 h.set.live;exact .inr ⟨b,a,d⟩
 ·obtain⟨b,a,d,_⟩:=h.set.gone;exact .inr ⟨b,a,d⟩
 ·exact .inl ⟨_,_,_,h.board.head,.inr (.inr (.inr rfl))⟩
 ·obtain⟨b,a,d,_⟩:=h.board.td;exact .inr ⟨b,a,d⟩
 ·obtain⟨b,a,d,_⟩:=h.board.leases;exact .inr ⟨b,a,d⟩
theorem zN.jo(h:zN w i c ep m q){fs:Value}(v:JAt w i.j i.d q.st q.S fs):∀k,vO i.j i.d fs k->¬jm i k:=fun k s u=>by
 obtain⟨cs,t,z,l,o⟩:=v.tag k s
 rcases h.otag k u with⟨p,A,r,f,g⟩|⟨y,x,n⟩
 ·have e:=jj l f
  rw[e]at o
  rcases o with b|b|b<;>rcases g with a|a|a|a<;>(rw[b]at a;exact absurd a (by decide))
 ·rw[l]at n;cases n
theorem zN.x_set(h:zN w i c ep m q):∀k,vp i.s i.tv i.lb i.gb k->k≠i.x:=fun k b e=>by
 subst e
 have a:=h.head
 rcases b with e|b|e|e
 ·rw[e,h.set.head]at a;cases a
 ·obtain⟨d,f⟩:=zG h.set.trow b
  rw[f]at a;cases a
 ·exact xp (xX.1 h.set.live) a e.symm
 ·exact xp h.set.gone a e.symm
theorem zN.x_board(h:zN w i c ep m q):∀k,vv i.b i.tb i.qb k->k≠i.x:=fun k f e=>by
 subst e
 have a:=h.head
 rcases f with e|e|e
 ·rw[e,h.board.head]at a;injection a with a;injection a with g d;exact absurd d (by decide)
 ·exact xp h.board.td a e.symm
 ·exact xp h.board.leases a e.symm
theorem zN.parts(h:zN w i c ep m q):∀k,vp i.s i.tv i.lb i.gb k->¬vv i.b i.tb i.qb k:=fun k l n=>by
 rcases n with e|e|e
 ·have a:=h.board.head
  rw[<-e]at a
  rcases l with e|j|e|e
  ·rw[e,h.set.head]at a;cases a
  ·obtain⟨d,g⟩:=zG h.set.trow j
   rw[g]at a;cases a
  ·exact xp (xX.1 h.set.live) a e.symm
  ·exact xp h.set.gone a e.symm
 ·rcases l with f|j|f|f
  ·exact xp h.board.td h.set.head (by omega)
  ·obtain⟨d,g⟩:=zG h.set.trow j
   exact xp h.board.td g e.symm
  ·exact h.a1 (by omega)
  ·exact h.a3 (by omega)
 ·rcases l with f|j|f|f
  ·exact xp h.board.leases h.set.head (by omega)
  ·obtain⟨d,g⟩:=zG h.set.trow j
   exact xp h.board.leases g e.symm
  ·exact h.a2 (by omega)
  ·exact h.a4 (by omega)
theorem zdd{i:Ids}{k:Nat}(h:jm i k):zhu i k:=by
 rcases h with h|h|h
 ·exact .inl h
 ·exact .inr (.inl h)
 ·exact .inr (.inr (.inl h))
theorem zN.jkept(h:zN w i c ep m q){f:Nat->Prop}{w':World}(a:zo f w w')(l:∀k,f k->jm i k):(∃fs,JAt w' i.j i.d q.st q.S fs)/\ZR w'/\(∀k,zY w' i k->k≠Qh)/\Kx i w w':=by
 obtain⟨fs,b⟩:=h.jrn
 have hn:∀k,vO i.j i.d fs k->¬f k:=fun k a e=>h.jo b k a (l k e)
 have g:JAt w' i.j i.d q.st q.S fs:=⟨a.heap b.head (hn _ (.inl rfl)),b.disk.kept a (fun k e=>hn k (.inr e))⟩
 refine⟨⟨fs,g⟩,h.tab.kept a (fun e=>h.tn _ (.inl (zdd (l _ e))) rfl),fun k e=>h.tn k ?_,Kx.of (a.mono (fun k _ e=>zdd (l k e))) ((a.block _ b.disk.lt (hn _ (.inr (.inl rfl)))))⟩
 rcases e with e|e
 ·exact .inl e
 ·exact .inr (by rw[b.fsB,<-g.fsB];exact e)
theorem zN.setNow(h:zN w i c ep m q)(n:Int):zN (w.setCell ⟨i.x,8,none⟩ (int i64 n)) i c ep {m with now:=n} q/\Kx i w (w.setCell ⟨i.x,8,none⟩ (int i64 n)):=by
 have b:zo (fun k=>k=i.x) w (w.setCell ⟨i.x,8,none⟩ (int i64 n)):=zi (zo.refl _ _) rfl
 obtain⟨d,f,g,j⟩:=h.jkept b (fun k e=> .inl e)
 exact⟨⟨xy (i:=8) h.head (int i64 n),h.set.kept b (fun k a=>h.x_set k a),h.board.kept b (fun k a=>h.x_board k a),d,f,h.a1,h.a2,h.a3,h.a4,g⟩,j⟩
theorem zN.setDown(h:zN w i c ep m q):zN (w.setCell ⟨i.x,12,none⟩ (.bool true)) i c ep m {q with dn:=true}/\Kx i w (w.setCell ⟨i.x,12,none⟩ (.bool true)):=by
 have b:zo (fun k=>k=i.x) w (w.setCell ⟨i.x,12,none⟩ (.bool true)):=zi (zo.refl _ _) rfl
 obtain⟨d,f,g,j⟩:=h.jkept b (fun k e=> .inl e)
 exact⟨⟨xy (i:=12) h.head (.bool true),h.set.kept b (fun k a=>h.x_set k a),h.board.kept b (fun k a=>h.x_board k a),d,f,h.a1,h.a2,h.a3,h.a4,g⟩,j⟩
theorem zN.putBoard{w':World}(h:zN w i c ep m q){num:Int}{TL:List (Jk×Tsk)}{QL:List (Tok×Lse)}(l:zA w' i.b c i.tv ep num i.tb i.qb TL QL)(a:zo (vv i.b i.tb i.qb) w w'):zN w' i c ep {m with num:=num,TL:=TL,QL:=QL} q/\Kx i w w':=by
 obtain⟨d,f,g,j⟩:=h.jkept a (fun k e=> .inr (.inr e))
 exact⟨⟨a.heap h.head (fun e=>h.x_board _ e rfl),h.set.kept a (fun k n=>h.parts k n),l,d,f,h.a1,h.a2,h.a3,h.a4,g⟩,j⟩
theorem zN.putSet{w':World}(h:zN w i c ep m q){L:LV}{Gl:List (Sg×Unit)}(j:xt w' i.s c i.tv i.lb i.gb Gl L)(a:zo (vp i.s i.tv i.lb i.gb) w w'):zN w' i c ep {m with L:=L,Gl:=Gl} q/\Kx i w w':=by
 obtain⟨b,d,f,g⟩:=h.jkept a (fun k e=> .inr (.inl e))
 exact⟨⟨a.heap h.head (fun e=>h.x_set _ e rfl),j,h.board.kept a (fun k l e=>h.parts k e l),b,d,h.a1,h.a2,h.a3,h.a4,f⟩,g⟩
theorem zN.putJrn{w':World}(h:zN w i c ep m q){fs:Value}(f:JAt w i.j i.d q.st q.S fs){n:Int}{S':DS}(s:JEnd w w' i.j i.d fs n S'):zN w' i c ep m {q with st:=n,S:=S'}/\Kx i w w':=by
 obtain⟨o,a,g,hn⟩:=s
 have b:=h.jo f
 have t:=h.tab.lt
 have l:¬vO i.j i.d fs Qh:=fun e=>by
  rcases e with e|e|e
  ·exact h.tn _ (.inl (.inr (.inr (.inr (.inl e))))) rfl
  ·exact h.tn _ (.inl (.inr (.inr (.inr (.inr e))))) rfl
  ·exact h.tn _ (.inr (f.fsB.trans e)) rfl
 refine⟨⟨g.heap h.head (fun e=>b _ e (.inl rfl)),h.set.kept g (fun k p e=>b k e (.inr (.inl p))),h.board.kept g (fun k p e=>b k e (.inr (.inr p))),⟨o,a⟩,h.tab.kept g l,h.a1,h.a2,h.a3,h.a4,fun k e=>?_⟩,⟨g.mono (fun k _ e=>?_),fun k e=>?_⟩⟩
 ·rcases e with e|e
  ·exact h.tn k (.inl e)
  ·rw[a.fsB]at e
   rcases hn k e with r|r
   ·exact h.tn k (.inr (f.fsB.trans r))
   ·omega
 ·rcases e with e|e|e
  ·exact .inl (.inr (.inr (.inr (.inl e))))
  ·exact .inl (.inr (.inr (.inr (.inr e))))
  ·exact .inr (f.fsB.trans e)
 ·rw[a.fsB]at e
  rw[f.fsB]
  exact hn k e
end
end Go.Proofs.YtndhpgciopcncaaGreatDoor
