import Derived.Test.YtndhpgciopcncaaGreatDoorRows
import Derived.Test.YtndhpgciopcncaaGreatDoorHMlz0
import Derived.Lib.LaidTab
import Derived.Stop.LaidErr
import Derived.MakeChecks
import Derived.Lay
set_option linter.unusedVariables false
set_option maxRecDepth 100000
namespace Go.Proofs.YtndhpgciopcncaaGreatDoor
open Go.RowKit Go.Maps Go.Shelf
variable {fs:Value} {w':World}
abbrev zkm:List (String×DataW Unit):=Rows.boundedRow.laid
theorem zoo:Tryz.prog.globalNamed "internal/strconv.uint64pow10" =some 3:=by kernel_rfl
theorem zpP:(Tryz.prog.globals[3]?).map (·.type)=some 387:=by kernel_rfl
theorem zdN{W:World}(h:laidMetH Tryz.prog zkm W):Qo W:=by
 rw[MakeChecks.laidMetH_plain _ _ _ (by kernel_rfl)]at h;have a:laidMet Tryz.prog (("internal/strconv.uint64pow10",Lib.tabData .u64 Lib.pow10Tab)::zkm.drop 3) W:=h.tail.tail;exact Lib.tabIs_of_head zoo zpP Tryz.underlying387 Tryz.underlying334 (by kernel_rfl) (by kernel_rfl) a
theorem zon(os:Os)(args:Array Value):laidMetH Tryz.prog zkm ((World.laidAll Tryz.prog os zkm).forCall (fun _ _=>0) ⟨#[],args,[]⟩).memory:=by
 rw[MakeChecks.laidMetH_plain _ _ _ (by kernel_rfl)];exact laidMet_laidAll _ (by kernel_rfl) (by kernel_rfl)
section
variable {w:World} {i:Ids} {c:Cf} {ep:Int} {m:MS} {q:JM}
def Zz(i:Ids)(k:Nat):Prop:=k=i.x\/Z0 i.s i.tv i.lb i.gb k\/Zc i.b i.tb i.qb k
theorem JAt.tag{j d:Nat}{st:Int}{S:DS}(h:JAt w j d st S fs):∀k,Zt j d fs k->∃cs t fr,w.1[k]?=some (.cells cs t fr)/\(t=216\/t=111\/t=113):=fun k a=>by
 rcases a with rfl|rfl|a
 ·exact⟨_,_,_,h.head,.inl rfl⟩
 ·exact⟨_,_,_,h.disk.head,.inr (.inl rfl)⟩
 ·obtain⟨b,c⟩:=zH h.disk.row a;exact⟨_,_,_,c,.inr (.inr rfl)⟩
theorem zO.otag(h:zO w i c ep m q):∀k,Zz i k->(∃cs t fr,w.1[k]?=some (.cells cs t fr)/\(t=94\/t=155\/t=80\/t=171))\/∃es cl,w.1[k]?=some (.map es cl):=fun k b=>by
 rcases b with rfl|(rfl|b|rfl|rfl)|(rfl|rfl|rfl)
 ·exact .inl ⟨_,_,_,h.head,.inl rfl⟩
 ·exact .inl ⟨_,_,_,h.set.head,.inr (.inl rfl)⟩
 ·obtain⟨d,e⟩:=zH h.set.trow b;exact .inl ⟨_,_,_,e,.inr (.inr (.inl rfl))⟩
 ·obtain⟨es,cl,a,_⟩:=qK.1 h.set.live;exact .inr ⟨es,cl,a⟩
 ·obtain⟨es,cl,a,_⟩:=h.set.gone;exact .inr ⟨es,cl,a⟩
 ·exact .inl ⟨_,_,_,h.board.head,.inr (.inr (.inr rfl))⟩
 ·obtain⟨es,cl,a,_⟩:=h.board.td;exact .inr ⟨es,cl,a⟩
 ·obtain⟨es,cl,a,_⟩:=h.board.leases;exact .inr ⟨es,cl,a⟩
theorem zO.jo(h:zO w i c ep m q)(v:JAt w i.j i.d q.st q.S fs):∀k,Zt i.j i.d fs k->¬Zz i k:=fun k s u=>by
 obtain⟨cs,t,fr,l,o⟩:=v.tag k s;rcases h.otag k u with⟨p,x,r,f,g⟩|⟨es,cl,n⟩
 ·have e:=Z6 l f;rw[e]at o;rcases o with b|b|b<;>rcases g with a|a|a|a<;>(rw[b]at a;exact absurd a (by decide))
 ·rw[l]at n;cases n
theorem zO.x_set(h:zO w i c ep m q):∀k,Z0 i.s i.tv i.lb i.gb k->k≠i.x:=fun k b e=>by
 subst e;have a:=h.head;rcases b with e|b|e|e
 ·rw[e,h.set.head]at a;cases a
 ·obtain⟨d,f⟩:=zH h.set.trow b;rw[f]at a;cases a
 ·exact xH (qK.1 h.set.live) a e.symm
 ·exact xH h.set.gone a e.symm
theorem zO.x_board(h:zO w i c ep m q):∀k,Zc i.b i.tb i.qb k->k≠i.x:=fun k f e=>by
 subst e;have a:=h.head;rcases f with e|e|e
 ·rw[e,h.board.head]at a;injection a with a;injection a with g d;exact absurd d (by decide)
 ·exact xH h.board.td a e.symm
 ·exact xH h.board.leases a e.symm
theorem zO.parts(h:zO w i c ep m q):∀k,Z0 i.s i.tv i.lb i.gb k->¬Zc i.b i.tb i.qb k:=fun k l n=>by
 rcases n with e|e|e
 ·have a:=h.board.head;rw[<-e]at a;rcases l with e|j|e|e
  ·rw[e,h.set.head]at a;cases a
  ·obtain⟨d,g⟩:=zH h.set.trow j;rw[g]at a;cases a
  ·exact xH (qK.1 h.set.live) a e.symm
  ·exact xH h.set.gone a e.symm
 ·rcases l with f|j|f|f
  ·exact xH h.board.td h.set.head (by omega)
  ·obtain⟨d,g⟩:=zH h.set.trow j;exact xH h.board.td g e.symm
  ·exact h.a1 (by omega)
  ·exact h.a3 (by omega)
 ·rcases l with f|j|f|f
  ·exact xH h.board.leases h.set.head (by omega)
  ·obtain⟨d,g⟩:=zH h.set.trow j;exact xH h.board.leases g e.symm
  ·exact h.a2 (by omega)
  ·exact h.a4 (by omega)
theorem ziJ{i:Ids}{k:Nat}(h:Zz i k):zov i k:=by
 rcases h with h|h|h
 ·exact .inl h
 ·exact .inr (.inl h)
 ·exact .inr (.inr (.inl h))
theorem zO.jkept(h:zO w i c ep m q){f:Nat->Prop}(a:zi f w w')(g:∀k,f k->Zz i k):(∃fs,JAt w' i.j i.d q.st q.S fs)/\Qo w'/\(∀k,zt w' i k->k≠vR)/\Kx i w w':=by
 obtain⟨fs,b⟩:=h.jrn;have hn:∀k,Zt i.j i.d fs k->¬f k:=fun k a e=>h.jo b k a (g k e);have hj':JAt w' i.j i.d q.st q.S fs:=⟨a.heap b.head (hn _ (.inl rfl)),b.disk.kept a (fun k e=>hn k (.inr e))⟩;refine⟨⟨fs,hj'⟩,h.tab.kept a (fun e=>h.tn _ (.inl (ziJ (g _ e))) rfl),fun k e=>h.tn k ?_,Kx.of (a.mono (fun k _ e=>ziJ (g k e))) ((a.block _ b.disk.lt (hn _ (.inr (.inl rfl)))))⟩;rcases e with e|e
 ·exact .inl e
 ·exact .inr (by rw[b.fsB,<-hj'.fsB];exact e)
theorem zO.setNow(h:zO w i c ep m q)(n:Int):zO (w.setCell (U i.x 8) (I n)) i c ep {m with now:=n} q/\Kx i w (w.setCell (U i.x 8) (I n)):=by
 have b:zi (fun k=>k=i.x) w (w.setCell (U i.x 8) (I n)):=zg (zi.refl _ _) rfl;obtain⟨d,f,g,j⟩:=h.jkept b (fun k e=> .inl e);exact⟨⟨xD (i:=8) h.head (I n),h.set.kept b (fun k a=>h.x_set k a),h.board.kept b (fun k a=>h.x_board k a),d,f,h.a1,h.a2,h.a3,h.a4,g⟩,j⟩
theorem zO.setDown(h:zO w i c ep m q):zO (w.setCell (U i.x 12) (.bool true)) i c ep m {q with dn:=true}/\Kx i w (w.setCell (U i.x 12) (.bool true)):=by
 have b:zi (fun k=>k=i.x) w (w.setCell (U i.x 12) (.bool true)):=zg (zi.refl _ _) rfl;obtain⟨d,f,g,j⟩:=h.jkept b (fun k e=> .inl e);exact⟨⟨xD (i:=12) h.head (.bool true),h.set.kept b (fun k a=>h.x_set k a),h.board.kept b (fun k a=>h.x_board k a),d,f,h.a1,h.a2,h.a3,h.a4,g⟩,j⟩
theorem zO.putBoard(h:zO w i c ep m q){num:Int}{TL:List (Jk×Tsk)}{QL:List (Tok×Lse)}(l:zC w' i.b c i.tv ep num i.tb i.qb TL QL)(a:zi (Zc i.b i.tb i.qb) w w'):zO w' i c ep {m with num:=num,TL:=TL,QL:=QL} q/\Kx i w w':=by
 obtain⟨d,f,g,j⟩:=h.jkept a (fun k e=> .inr (.inr e));exact⟨⟨a.heap h.head (fun e=>h.x_board _ e rfl),h.set.kept a (fun k n=>h.parts k n),l,d,f,h.a1,h.a2,h.a3,h.a4,g⟩,j⟩
theorem zO.putSet(h:zO w i c ep m q){L:LV}{Gl:List (Sg×Unit)}(j:xI w' i.s c i.tv i.lb i.gb Gl L)(a:zi (Z0 i.s i.tv i.lb i.gb) w w'):zO w' i c ep {m with L:=L,Gl:=Gl} q/\Kx i w w':=by
 obtain⟨b,d,f,g⟩:=h.jkept a (fun k e=> .inr (.inl e));exact⟨⟨a.heap h.head (fun e=>h.x_set _ e rfl),j,h.board.kept a (fun k l e=>h.parts k e l),b,d,h.a1,h.a2,h.a3,h.a4,f⟩,g⟩
theorem zO.putJrn(h:zO w i c ep m q)(b:JAt w i.j i.d q.st q.S fs){st':Int}{S':DS}(p:JEnd w w' i.j i.d fs st' S'):zO w' i c ep m {q with st:=st',S:=S'}/\Kx i w w':=by
 obtain⟨l,hj',f,hn⟩:=p;have a:=h.jo b;have r:=h.tab.lt;have g:¬Zt i.j i.d fs vR:=fun e=>by
  rcases e with e|e|e
  ·exact h.tn _ (.inl (.inr (.inr (.inr (.inl e))))) rfl
  ·exact h.tn _ (.inl (.inr (.inr (.inr (.inr e))))) rfl
  ·exact h.tn _ (.inr (b.fsB.trans e)) rfl
 refine⟨⟨f.heap h.head (fun e=>a _ e (.inl rfl)),h.set.kept f (fun k n e=>a k e (.inr (.inl n))),h.board.kept f (fun k n e=>a k e (.inr (.inr n))),⟨l,hj'⟩,h.tab.kept f g,h.a1,h.a2,h.a3,h.a4,fun k e=>?_⟩,⟨f.mono (fun k _ e=>?_),fun k e=>?_⟩⟩
 ·rcases e with e|e
  ·exact h.tn k (.inl e)
  ·rw[hj'.fsB]at e;rcases hn k e with o|o
   ·exact h.tn k (.inr (b.fsB.trans o))
   ·omega
 ·rcases e with e|e|e
  ·exact .inl (.inr (.inr (.inr (.inl e))))
  ·exact .inl (.inr (.inr (.inr (.inr e))))
  ·exact .inr (b.fsB.trans e)
 ·rw[hj'.fsB]at e;rw[b.fsB];exact hn k e
end
end Go.Proofs.YtndhpgciopcncaaGreatDoor
