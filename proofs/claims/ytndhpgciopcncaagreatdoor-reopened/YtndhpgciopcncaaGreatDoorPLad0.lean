import Derived.Test.YtndhpgciopcncaaGreatDoorRows
import Derived.Test.YtndhpgciopcncaaGreatDoorPMlz0
import Derived.Lib.LaidTab
import Derived.Stop.LaidErr
import Derived.MakeChecks
import Derived.Lay
set_option linter.unusedVariables false
set_option maxRecDepth 100000
namespace Go.Proofs.YtndhpgciopcncaaGreatDoor
open Go.RowKit Go.Maps Go.Shelf
abbrev zkb:List (String×DataW Unit):=Rows.boundedRow.laid
theorem znN:Tryz.prog.globalNamed "internal/strconv.uint64pow10" =some 3:=by kernel_rfl
theorem zpn:(Tryz.prog.globals[3]?).map (·.type)=some 387:=by kernel_rfl
theorem zdo{W:World}(h:laidMetH Tryz.prog zkb W):Qe W:=by
 rw[MakeChecks.laidMetH_plain _ _ _ (by kernel_rfl)]at h
 have a:laidMet Tryz.prog (("internal/strconv.uint64pow10",Lib.tabData .u64 Lib.pow10Tab)::zkb.drop 3) W:=h.tail.tail
 exact Lib.tabIs_of_head znN zpn Tryz.underlying387 Tryz.underlying334 (by kernel_rfl) (by kernel_rfl) a
theorem znM(os:Os)(args:Array Value):laidMetH Tryz.prog zkb ((World.laidAll Tryz.prog os zkb).forCall (fun _ _=>0) ⟨#[],args,[]⟩).memory:=by
 rw[MakeChecks.laidMetH_plain _ _ _ (by kernel_rfl)];exact laidMet_laidAll _ (by kernel_rfl) (by kernel_rfl)
section
variable {w:World} {i:Ids} {c:Cf} {ep:Int} {m:MS} {q:JM}
def ZM(i:Ids)(k:Nat):Prop:=k=i.x\/jJ i.s i.tv i.lb i.gb k\/jT i.b i.tb i.qb k
theorem JAt.tag{j d:Nat}{st:Int}{S:DS}{fs:Value}(h:JAt w j d st S fs):∀k,Zb j d fs k->∃cs t c,w.1[k]?=some (.cells cs t c)/\(t=216\/t=111\/t=113):=fun k a=>by
 rcases a with rfl|rfl|a
 ·exact⟨_,_,_,h.head,.inl rfl⟩
 ·exact⟨_,_,_,h.disk.head,.inr (.inl rfl)⟩
 ·obtain⟨b,e⟩:=zH h.disk.row a
  exact⟨_,_,_,e,.inr (.inr rfl)⟩
theorem zQ.otag(h:zQ w i c ep m q):∀k,ZM i k->(∃cs t g,w.1[k]?=some (.cells cs t g)/\(t=94\/t=155\/t=80\/t=171))\/∃b a,w.1[k]?=some (.map b a):=fun k e=>by
 rcases e with rfl|(rfl|e|rfl|rfl)|(rfl|rfl|rfl)
 ·exact .inl ⟨_,_,_,h.head,.inl rfl⟩
 ·exact .inl ⟨_,_,_,h.set.head,.inr (.inl rfl)⟩
 ·obtain⟨f,j⟩:=zH h.set.trow e
  exact .inl ⟨_,_,_,j,.inr (.inr (.inl rfl))⟩
 ·obtain⟨b,a,d,_⟩:=qA.1 h.set.live;exact .inr ⟨b,a,d⟩
 ·obtain⟨b,a,d,_⟩:=h.set.gone;exact .inr ⟨b,a,d⟩
 ·exact .inl ⟨_,_,_,h.board.head,.inr (.inr (.inr rfl))⟩
 ·obtain⟨b,a,d,_⟩:=h.board.td;exact .inr ⟨b,a,d⟩
 ·obtain⟨b,a,d,_⟩:=h.board.leases;exact .inr ⟨b,a,d⟩
theorem zQ.jo(h:zQ w i c ep m q){fs:Value}(v:JAt w i.j i.d q.st q.S fs):∀k,Zb i.j i.d fs k->¬ZM i k:=fun k s u=>by
 obtain⟨cs,t,z,l,o⟩:=v.tag k s
 rcases h.otag k u with⟨p,A,r,f,g⟩|⟨y,x,n⟩
 ·have e:=jM l f
  rw[e]at o
  rcases o with b|b|b<;>rcases g with a|a|a|a<;>(rw[b]at a;exact absurd a (by decide))
 ·rw[l]at n;cases n
theorem zQ.x_set(h:zQ w i c ep m q):∀k,jJ i.s i.tv i.lb i.gb k->k≠i.x:=fun k b e=>by
 subst e
 have a:=h.head
 rcases b with e|b|e|e
 ·rw[e,h.set.head]at a;cases a
 ·obtain⟨d,f⟩:=zH h.set.trow b
  rw[f]at a;cases a
 ·exact xD (qA.1 h.set.live) a e.symm
 ·exact xD h.set.gone a e.symm
theorem zQ.x_board(h:zQ w i c ep m q):∀k,jT i.b i.tb i.qb k->k≠i.x:=fun k f e=>by
 subst e
 have a:=h.head
 rcases f with e|e|e
 ·rw[e,h.board.head]at a;injection a with a;injection a with g d;exact absurd d (by decide)
 ·exact xD h.board.td a e.symm
 ·exact xD h.board.leases a e.symm
theorem zQ.parts(h:zQ w i c ep m q):∀k,jJ i.s i.tv i.lb i.gb k->¬jT i.b i.tb i.qb k:=fun k l n=>by
 rcases n with e|e|e
 ·have a:=h.board.head
  rw[<-e]at a
  rcases l with e|j|e|e
  ·rw[e,h.set.head]at a;cases a
  ·obtain⟨d,g⟩:=zH h.set.trow j
   rw[g]at a;cases a
  ·exact xD (qA.1 h.set.live) a e.symm
  ·exact xD h.set.gone a e.symm
 ·rcases l with f|j|f|f
  ·exact xD h.board.td h.set.head (by omega)
  ·obtain⟨d,g⟩:=zH h.set.trow j
   exact xD h.board.td g e.symm
  ·exact h.a1 (by omega)
  ·exact h.a3 (by omega)
 ·rcases l with f|j|f|f
  ·exact xD h.board.leases h.set.head (by omega)
  ·obtain⟨d,g⟩:=zH h.set.trow j
   exact xD h.board.leases g e.symm
  ·exact h.a2 (by omega)
  ·exact h.a4 (by omega)
theorem ziB{i:Ids}{k:Nat}(h:ZM i k):znU i k:=by
 rcases h with h|h|h
 ·exact .inl h
 ·exact .inr (.inl h)
 ·exact .inr (.inr (.inl h))
theorem zQ.jkept(h:zQ w i c ep m q){f:Nat->Prop}{w':World}(a:zh f w w')(g:∀k,f k->ZM i k):(∃fs,JAt w' i.j i.d q.st q.S fs)/\Qe w'/\(∀k,zG w' i k->k≠Y4)/\Kx i w w':=by
 obtain⟨fs,b⟩:=h.jrn
 have hn:∀k,Zb i.j i.d fs k->¬f k:=fun k a e=>h.jo b k a (g k e)
 have hj':JAt w' i.j i.d q.st q.S fs:=⟨a.heap b.head (hn _ (.inl rfl)),b.disk.kept a (fun k e=>hn k (.inr e))⟩
 refine⟨⟨fs,hj'⟩,h.tab.kept a (fun e=>h.tn _ (.inl (ziB (g _ e))) rfl),fun k e=>h.tn k ?_,Kx.of (a.mono (fun k _ e=>ziB (g k e))) ((a.block _ b.disk.lt (hn _ (.inr (.inl rfl)))))⟩
 rcases e with e|e
 ·exact .inl e
 ·exact .inr (by rw[b.fsB,<-hj'.fsB];exact e)
theorem zQ.setNow(h:zQ w i c ep m q)(n:Int):zQ (w.setCell (U i.x 8) (I n)) i c ep {m with now:=n} q/\Kx i w (w.setCell (U i.x 8) (I n)):=by
 have b:zh (fun k=>k=i.x) w (w.setCell (U i.x 8) (I n)):=zg (zh.refl _ _) rfl
 obtain⟨d,f,g,j⟩:=h.jkept b (fun k e=> .inl e)
 exact⟨⟨xy (i:=8) h.head (I n),h.set.kept b (fun k a=>h.x_set k a),h.board.kept b (fun k a=>h.x_board k a),d,f,h.a1,h.a2,h.a3,h.a4,g⟩,j⟩
theorem zQ.setDown(h:zQ w i c ep m q):zQ (w.setCell (U i.x 12) (.bool true)) i c ep m {q with dn:=true}/\Kx i w (w.setCell (U i.x 12) (.bool true)):=by
 have b:zh (fun k=>k=i.x) w (w.setCell (U i.x 12) (.bool true)):=zg (zh.refl _ _) rfl
 obtain⟨d,f,g,j⟩:=h.jkept b (fun k e=> .inl e)
 exact⟨⟨xy (i:=12) h.head (.bool true),h.set.kept b (fun k a=>h.x_set k a),h.board.kept b (fun k a=>h.x_board k a),d,f,h.a1,h.a2,h.a3,h.a4,g⟩,j⟩
theorem zQ.putBoard{w':World}(h:zQ w i c ep m q){num:Int}{TL:List (Jk×Tsk)}{QL:List (Tok×Lse)}(l:zC w' i.b c i.tv ep num i.tb i.qb TL QL)(a:zh (jT i.b i.tb i.qb) w w'):zQ w' i c ep {m with num:=num,TL:=TL,QL:=QL} q/\Kx i w w':=by
 obtain⟨d,f,g,j⟩:=h.jkept a (fun k e=> .inr (.inr e))
 exact⟨⟨a.heap h.head (fun e=>h.x_board _ e rfl),h.set.kept a (fun k n=>h.parts k n),l,d,f,h.a1,h.a2,h.a3,h.a4,g⟩,j⟩
theorem zQ.putSet{w':World}(h:zQ w i c ep m q){L:LV}{Gl:List (Sg×Unit)}(j:xE w' i.s c i.tv i.lb i.gb Gl L)(a:zh (jJ i.s i.tv i.lb i.gb) w w'):zQ w' i c ep {m with L:=L,Gl:=Gl} q/\Kx i w w':=by
 obtain⟨b,d,f,g⟩:=h.jkept a (fun k e=> .inr (.inl e))
 exact⟨⟨a.heap h.head (fun e=>h.x_set _ e rfl),j,h.board.kept a (fun k l e=>h.parts k e l),b,d,h.a1,h.a2,h.a3,h.a4,f⟩,g⟩
theorem zQ.putJrn{w':World}(h:zQ w i c ep m q){fs:Value}(b:JAt w i.j i.d q.st q.S fs){l:Int}{S':DS}(r:JEnd w w' i.j i.d fs l S'):zQ w' i c ep m {q with st:=l,S:=S'}/\Kx i w w':=by
 obtain⟨n,hj',f,hn⟩:=r
 have a:=h.jo b
 have s:=h.tab.lt
 have g:¬Zb i.j i.d fs Y4:=fun e=>by
  rcases e with e|e|e
  ·exact h.tn _ (.inl (.inr (.inr (.inr (.inl e))))) rfl
  ·exact h.tn _ (.inl (.inr (.inr (.inr (.inr e))))) rfl
  ·exact h.tn _ (.inr (b.fsB.trans e)) rfl
 refine⟨⟨f.heap h.head (fun e=>a _ e (.inl rfl)),h.set.kept f (fun k o e=>a k e (.inr (.inl o))),h.board.kept f (fun k o e=>a k e (.inr (.inr o))),⟨n,hj'⟩,h.tab.kept f g,h.a1,h.a2,h.a3,h.a4,fun k e=>?_⟩,⟨f.mono (fun k _ e=>?_),fun k e=>?_⟩⟩
 ·rcases e with e|e
  ·exact h.tn k (.inl e)
  ·rw[hj'.fsB]at e
   rcases hn k e with p|p
   ·exact h.tn k (.inr (b.fsB.trans p))
   ·omega
 ·rcases e with e|e|e
  ·exact .inl (.inr (.inr (.inr (.inl e))))
  ·exact .inl (.inr (.inr (.inr (.inr e))))
  ·exact .inr (b.fsB.trans e)
 ·rw[hj'.fsB]at e
  rw[b.fsB]
  exact hn k e
end
end Go.Proofs.YtndhpgciopcncaaGreatDoor
