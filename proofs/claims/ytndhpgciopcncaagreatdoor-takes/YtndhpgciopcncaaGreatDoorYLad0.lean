import Derived.Test.YtndhpgciopcncaaGreatDoorRows
import Derived.Test.YtndhpgciopcncaaGreatDoorYMlz0
import Derived.Lib.LaidTab
import Derived.Stop.LaidErr
import Derived.MakeChecks
import Derived.Lay
import Derived.Deep.RegionHeld3
open Option renaming none → I
open Go.Value renaming int → J
open Go.IntKind renaming i64 → O
open Option renaming some → E
open Go renaming World → Q
open Nat renaming le_refl → Z
open Go.RowKit.Below renaming refl → N
set_option linter.unusedVariables false
set_option maxRecDepth 100000
set_option maxHeartbeats 4000000
open Go.Proofs.Tryz
namespace Go.Proofs.YtndhpgciopcncaaGreatDoor
open Go.ChangeMaps (setBlock)
open Go.RowKit Go.Maps Go.Shelf
abbrev zhH:List (String×DataW Unit):=Rows.boundedRow.laid
theorem ziA:prog.globalNamed "internal/strconv.uint64pow10" =E 3:=by kernel_rfl
theorem zjS:(prog.globals[3]?).map (·.type)=E 387:=by kernel_rfl
theorem zaM{W:Q}(h:laidMetH prog zhH W):XN W:=by
 rw[MakeChecks.laidMetH_plain _ _ _ (by kernel_rfl)]at h
 have a:laidMet prog (("internal/strconv.uint64pow10",Lib.tabData .u64 Lib.pow10Tab)::zhH.drop 3) W:=h.tail.tail
 exact Lib.tabIs_of_head ziA zjS underlying387 underlying334 (by kernel_rfl) (by kernel_rfl) a
theorem ziz(os:Os)(args:Array Value):laidMetH prog zhH ((World.laidAll prog os zhH).forCall (fun _ _=>0) ⟨#[],args,[]⟩).memory:=by
 rw[MakeChecks.laidMetH_plain _ _ _ (by kernel_rfl)];exact laidMet_laidAll _ (by kernel_rfl) (by kernel_rfl)
section
variable {w:Q} {i:Ids} {c:Cf} {ep:Int} {m:MS} {q:JM}
def XS(i:Ids)(k:Nat):Prop:=k=i.x\/vy i.s i.tv i.lb i.gb k\/ZZ i.b i.tb i.qb k
theorem JAt.tag{j d:Nat}{st:Int}{S:DS}{fs:Value}(h:JAt w j d st S fs):∀k,vL j d fs k->∃cs t c,w.1[k]?=E (.cells cs t c)/\(t=216\/t=111\/t=113):=fun k a=>by
 rcases a with rfl|rfl|a
 ·exact⟨_,_,_,h.head,.inl rfl⟩
 ·exact⟨_,_,_,h.disk.head,.inr (.inl rfl)⟩
 ·obtain⟨b,e⟩:=zz h.disk.row a
  exact⟨_,_,_,e,.inr (.inr rfl)⟩
theorem zR.otag(h:zR w i c ep m q):∀k,XS i k->(∃cs t g,w.1[k]?=E (.cells cs t g)/\(t=94\/t=155\/t=80\/t=171))\/∃b a,w.1[k]?=E (.map b a):=fun k e=>by
 rcases e with rfl|(rfl|e|rfl|rfl)|(rfl|rfl|rfl)
 ·exact .inl ⟨_,_,_,h.head,.inl rfl⟩
 ·exact .inl ⟨_,_,_,h.set.head,.inr (.inl rfl)⟩
 ·obtain⟨f,j⟩:=zz h.set.trow e
  exact .inl ⟨_,_,_,j,.inr (.inr (.inl rfl))⟩
 ·obtain⟨b,a,d,_⟩:=xO.1 h.set.live;exact .inr ⟨b,a,d⟩
 ·obtain⟨b,a,d,_⟩:=h.set.gone;exact .inr ⟨b,a,d⟩
 ·exact .inl ⟨_,_,_,h.board.head,.inr (.inr (.inr rfl))⟩
 ·obtain⟨b,a,d,_⟩:=h.board.tk;exact .inr ⟨b,a,d⟩
 ·obtain⟨b,a,d,_⟩:=h.board.leases;exact .inr ⟨b,a,d⟩
theorem zR.jo(h:zR w i c ep m q){fs:Value}(v:JAt w i.j i.d q.st q.S fs):∀k,vL i.j i.d fs k->¬XS i k:=fun k s u=>by
 obtain⟨cs,t,z,l,o⟩:=v.tag k s
 rcases h.otag k u with⟨p,A,r,f,g⟩|⟨y,x,n⟩
 ·have e:=yy l f
  rw[e]at o
  rcases o with b|b|b<;>rcases g with a|a|a|a<;>(rw[b]at a;exact absurd a (by decide))
 ·rw[l]at n;cases n
theorem zR.x_set(h:zR w i c ep m q):∀k,vy i.s i.tv i.lb i.gb k->k≠i.x:=fun k b e=>by
 subst e
 have a:=h.head
 rcases b with e|b|e|e
 ·rw[e,h.set.head]at a;cases a
 ·obtain⟨d,f⟩:=zz h.set.trow b
  rw[f]at a;cases a
 ·exact zZ (xO.1 h.set.live) a e.symm
 ·exact zZ h.set.gone a e.symm
theorem zR.x_board(h:zR w i c ep m q):∀k,ZZ i.b i.tb i.qb k->k≠i.x:=fun k f e=>by
 subst e
 have a:=h.head
 rcases f with e|e|e
 ·rw[e,h.board.head]at a;injection a with a;injection a with g d;exact absurd d (by decide)
 ·exact zZ h.board.tk a e.symm
 ·exact zZ h.board.leases a e.symm
theorem zR.parts(h:zR w i c ep m q):∀k,vy i.s i.tv i.lb i.gb k->¬ZZ i.b i.tb i.qb k:=fun k l n=>by
 rcases n with e|e|e
 ·have a:=h.board.head
  rw[<-e]at a
  rcases l with e|j|e|e
  ·rw[e,h.set.head]at a;cases a
  ·obtain⟨d,g⟩:=zz h.set.trow j
   rw[g]at a;cases a
  ·exact zZ (xO.1 h.set.live) a e.symm
  ·exact zZ h.set.gone a e.symm
 ·rcases l with f|j|f|f
  ·exact zZ h.board.tk h.set.head (by omega)
  ·obtain⟨d,g⟩:=zz h.set.trow j
   exact zZ h.board.tk g e.symm
  ·exact h.a1 (by omega)
  ·exact h.a3 (by omega)
 ·rcases l with f|j|f|f
  ·exact zZ h.board.leases h.set.head (by omega)
  ·obtain⟨d,g⟩:=zz h.set.trow j
   exact zZ h.board.leases g e.symm
  ·exact h.a2 (by omega)
  ·exact h.a4 (by omega)
theorem zeF{i:Ids}{k:Nat}(h:XS i k):zgF i k:=by
 rcases h with h|h|h
 ·exact .inl h
 ·exact .inr (.inl h)
 ·exact .inr (.inr (.inl h))
theorem zR.jkept(h:zR w i c ep m q){f:Nat->Prop}{w':Q}(a:zk f w w')(l:∀k,f k->XS i k):(∃fs,JAt w' i.j i.d q.st q.S fs)/\XN w'/\(∀k,zT w' i k->k≠ZV)/\Kx i w w':=by
 obtain⟨fs,b⟩:=h.jrn
 have hn:∀k,vL i.j i.d fs k->¬f k:=fun k a e=>h.jo b k a (l k e)
 have g:JAt w' i.j i.d q.st q.S fs:=⟨a.heap b.head (hn _ (.inl rfl)),b.disk.kept a (fun k e=>hn k (.inr e))⟩
 refine⟨⟨fs,g⟩,h.tab.kept a (fun e=>h.tn _ (.inl (zeF (l _ e))) rfl),fun k e=>h.tn k ?_,Kx.of (a.mono (fun k _ e=>zeF (l k e))) ((a.block _ b.disk.lt (hn _ (.inr (.inl rfl)))))⟩
 rcases e with e|e
 ·exact .inl e
 ·exact .inr (by rw[b.fsB,<-g.fsB];exact e)
theorem zR.setNow(h:zR w i c ep m q)(n:Int):zR (w.setCell ⟨i.x,8,I⟩ (J O n)) i c ep {m with now:=n} q/\Kx i w (w.setCell ⟨i.x,8,I⟩ (J O n)):=by
 have b:zk (fun k=>k=i.x) w (w.setCell ⟨i.x,8,I⟩ (J O n)):=zq (zk.refl _ _) rfl
 obtain⟨d,f,g,j⟩:=h.jkept b (fun k e=> .inl e)
 exact⟨⟨xi (i:=8) h.head (J O n),h.set.kept b (fun k a=>h.x_set k a),h.board.kept b (fun k a=>h.x_board k a),d,f,h.a1,h.a2,h.a3,h.a4,g⟩,j⟩
theorem zR.setDown(h:zR w i c ep m q):zR (w.setCell ⟨i.x,12,I⟩ (.bool true)) i c ep m {q with dn:=true}/\Kx i w (w.setCell ⟨i.x,12,I⟩ (.bool true)):=by
 have b:zk (fun k=>k=i.x) w (w.setCell ⟨i.x,12,I⟩ (.bool true)):=zq (zk.refl _ _) rfl
 obtain⟨d,f,g,j⟩:=h.jkept b (fun k e=> .inl e)
 exact⟨⟨xi (i:=12) h.head (.bool true),h.set.kept b (fun k a=>h.x_set k a),h.board.kept b (fun k a=>h.x_board k a),d,f,h.a1,h.a2,h.a3,h.a4,g⟩,j⟩
theorem zR.putBoard{w':Q}(h:zR w i c ep m q){num:Int}{TL:List (Jk×Tsk)}{QL:List (Tok×Lse)}(l:zO w' i.b c i.tv ep num i.tb i.qb TL QL)(a:zk (ZZ i.b i.tb i.qb) w w'):zR w' i c ep {m with num:=num,TL:=TL,QL:=QL} q/\Kx i w w':=by
 obtain⟨d,f,g,j⟩:=h.jkept a (fun k e=> .inr (.inr e))
 exact⟨⟨a.heap h.head (fun e=>h.x_board _ e rfl),h.set.kept a (fun k n=>h.parts k n),l,d,f,h.a1,h.a2,h.a3,h.a4,g⟩,j⟩
theorem zR.putSet{w':Q}(h:zR w i c ep m q){L:LV}{Gl:List (Sg×Unit)}(j:xl w' i.s c i.tv i.lb i.gb Gl L)(a:zk (vy i.s i.tv i.lb i.gb) w w'):zR w' i c ep {m with L:=L,Gl:=Gl} q/\Kx i w w':=by
 obtain⟨b,d,f,g⟩:=h.jkept a (fun k e=> .inr (.inl e))
 exact⟨⟨a.heap h.head (fun e=>h.x_set _ e rfl),j,h.board.kept a (fun k l e=>h.parts k e l),b,d,h.a1,h.a2,h.a3,h.a4,f⟩,g⟩
theorem zR.putJrn{w':Q}(h:zR w i c ep m q){fs:Value}(f:JAt w i.j i.d q.st q.S fs){n:Int}{S':DS}(s:JEnd w w' i.j i.d fs n S'):zR w' i c ep m {q with st:=n,S:=S'}/\Kx i w w':=by
 obtain⟨o,a,g,hn⟩:=s
 have b:=h.jo f
 have t:=h.tab.lt
 have l:¬vL i.j i.d fs ZV:=fun e=>by
  rcases e with e|e|e
  ·exact h.tn _ (.inl (.inr (.inr (.inr (.inl e))))) rfl
  ·exact h.tn _ (.inl (.inr (.inr (.inr (.inr e))))) rfl
  ·exact h.tn _ (.inr (f.fsB.trans e)) rfl
 refine⟨⟨g.heap h.head (fun e=>b _ e (.inl rfl)),h.set.kept g (fun k p e=>b k e (.inr (.inl p))),h.board.kept g (fun k p e=>b k e (.inr (.inr p))),⟨o,a⟩,h.tab.kept g l,h.a1,h.a2,h.a3,h.a4,fun k e=>?_⟩,⟨g.mono (fun k _ e=>?_),fun k e=>?_⟩⟩
 ·rcases e with e|e
  ·exact h.tn k (.inl e)
  ·rw[a.fsB]at e
   rcases hn k e with r|r
   ·exact h.tn k (.inr (f.fsB.trans r))
   ·omega
 ·rcases e with e|e|e
  ·exact .inl (.inr (.inr (.inr (.inl e))))
  ·exact .inl (.inr (.inr (.inr (.inr e))))
  ·exact .inr (f.fsB.trans e)
 ·rw[a.fsB]at e
  rw[f.fsB]
  exact hn k e
end
structure xP(dn:Bool)(w:Q)(i:Ids)(c:Cf)(ep:Int)(m:MS):Prop where
 head:w.1[i.x]?=E (.cells #[J O c.s,J O c.le,J O c.la,J O c.wi,J O c.ke,J O c.qu,i.tv,J O ep,J O m.now,.pointer (E ⟨i.s,0,I⟩),.pointer (E ⟨i.b,0,I⟩),.pointer (E ⟨i.j,0,I⟩),.bool dn] 94 (0,0))
 set:xl w i.s c i.tv i.lb i.gb m.Gl m.L
 board:zO w i.b c i.tv ep m.num i.tb i.qb m.TL m.QL
 a1:i.lb≠i.tb
 a2:i.lb≠i.qb
 a3:i.gb≠i.tb
 a4:i.gb≠i.qb
section
variable {dn:Bool} {w:Q} {i:Ids} {c:Cf} {ep:Int} {m:MS}
theorem xP.lt(h:xP dn w i c ep m):i.x<w.1.size:=zb h.head
theorem xP.kept{f:Nat->Prop}{w':Q}(h:xP dn w i c ep m)(b:zk f w w')(hn:∀k,XS i k->¬f k):xP dn w' i c ep m:=
 ⟨b.heap h.head (hn i.x (.inl rfl)),h.set.kept b (fun k a=>hn k (.inr (.inl a))),h.board.kept b (fun k a=>hn k (.inr (.inr a))),h.a1,h.a2,h.a3,h.a4⟩
theorem xP.later{w':Q}(h:xP dn w i c ep m)(a:Below w.1.size w w'):xP dn w' i c ep m:=h.kept (f:=fun _=>False) (zk.of_below a) (fun _ _ b=>b)
theorem xP.foot_lt(h:xP dn w i c ep m):∀k,XS i k->k<w.1.size:=fun k a=>by
 rcases a with rfl|a|a
 ·exact h.lt
 ·exact h.set.foot_lt k a
 ·exact h.board.foot_lt k a
theorem xP.cells(h:xP dn w i c ep m):w.cell? ⟨i.x,0,I⟩=E (J O c.s)/\w.cell? ⟨i.x,1,I⟩=E (J O c.le)/\w.cell? ⟨i.x,2,I⟩=E (J O c.la)/\w.cell? ⟨i.x,3,I⟩=E (J O c.wi)/\w.cell? ⟨i.x,4,I⟩=E (J O c.ke)/\w.cell? ⟨i.x,5,I⟩=E (J O c.qu)/\w.cell? ⟨i.x,6,I⟩=E i.tv/\w.cell? ⟨i.x,7,I⟩=E (J O ep)/\w.cell? ⟨i.x,8,I⟩=E (J O m.now)/\w.cell? ⟨i.x,9,I⟩=E (.pointer (E ⟨i.s,0,I⟩))/\w.cell? ⟨i.x,10,I⟩=E (.pointer (E ⟨i.b,0,I⟩)):=by
 refine⟨?_,?_,?_,?_,?_,?_,?_,?_,?_,?_,?_⟩<;>rw[xd h.head]<;>rfl
theorem xP.x_set(h:xP dn w i c ep m):∀k,vy i.s i.tv i.lb i.gb k->k≠i.x:=fun k b e=>by
 subst e
 have a:=h.head
 rcases b with e|b|e|e
 ·rw[e,h.set.head]at a;cases a
 ·obtain⟨d,f⟩:=zz h.set.trow b
  rw[f]at a;cases a
 ·exact zZ (xO.1 h.set.live) a e.symm
 ·exact zZ h.set.gone a e.symm
theorem xP.x_board(h:xP dn w i c ep m):∀k,ZZ i.b i.tb i.qb k->k≠i.x:=fun k f e=>by
 subst e
 have a:=h.head
 rcases f with e|e|e
 ·rw[e,h.board.head]at a;injection a with a;injection a with g d;exact absurd d (by decide)
 ·exact zZ h.board.tk a e.symm
 ·exact zZ h.board.leases a e.symm
theorem xP.parts(h:xP dn w i c ep m):∀k,vy i.s i.tv i.lb i.gb k->¬ZZ i.b i.tb i.qb k:=fun k l n=>by
 rcases n with e|e|e
 ·have a:=h.board.head
  rw[<-e]at a
  rcases l with e|j|e|e
  ·rw[e,h.set.head]at a;cases a
  ·obtain⟨d,g⟩:=zz h.set.trow j
   rw[g]at a;cases a
  ·exact zZ (xO.1 h.set.live) a e.symm
  ·exact zZ h.set.gone a e.symm
 ·rcases l with f|j|f|f
  ·exact zZ h.board.tk h.set.head (by omega)
  ·obtain⟨d,g⟩:=zz h.set.trow j
   exact zZ h.board.tk g e.symm
  ·exact h.a1 (by omega)
  ·exact h.a3 (by omega)
 ·rcases l with f|j|f|f
  ·exact zZ h.board.leases h.set.head (by omega)
  ·obtain⟨d,g⟩:=zz h.set.trow j
   exact zZ h.board.leases g e.symm
  ·exact h.a2 (by omega)
  ·exact h.a4 (by omega)
theorem xP.setNow(h:xP dn w i c ep m)(n:Int):xP dn (w.setCell ⟨i.x,8,I⟩ (J O n)) i c ep {m with now:=n}:=by
 have b:zk (fun k=>k=i.x) w (w.setCell ⟨i.x,8,I⟩ (J O n)):=zq (zk.refl _ _) rfl
 exact⟨xi (i:=8) h.head (J O n),h.set.kept b (fun k a=>h.x_set k a),h.board.kept b (fun k a=>h.x_board k a),h.a1,h.a2,h.a3,h.a4⟩
theorem xP.putBoard{w':Q}(h:xP dn w i c ep m){num:Int}{TL:List (Jk×Tsk)}{QL:List (Tok×Lse)}(d:zO w' i.b c i.tv ep num i.tb i.qb TL QL)(a:zk (ZZ i.b i.tb i.qb) w w'):xP dn w' i c ep {m with num:=num,TL:=TL,QL:=QL}:=
 ⟨a.heap h.head (fun e=>h.x_board _ e rfl),h.set.kept a (fun k f=>h.parts k f),d,h.a1,h.a2,h.a3,h.a4⟩
theorem xP.putSet{w':Q}(h:xP dn w i c ep m){L:LV}{Gl:List (Sg×Unit)}(b:xl w' i.s c i.tv i.lb i.gb Gl L)(a:zk (vy i.s i.tv i.lb i.gb) w w'):xP dn w' i c ep {m with L:=L,Gl:=Gl}:=
 ⟨a.heap h.head (fun e=>h.x_set _ e rfl),b,h.board.kept a (fun k d e=>h.parts k e d),h.a1,h.a2,h.a3,h.a4⟩
theorem xP.ts(h:xP dn w i c ep m):∃a cap,i.tv=.slice a c.n cap/\TS w a c.n c.F c.W c.K:=by
 obtain⟨a,cap,e⟩:=zm h.set.trow
 exact⟨a,cap,e,TS.of_owns (e▸h.set.trow)⟩
end
section
variable {w:Q} {i:Ids} {c:Cf} {ep:Int} {m:MS} {q:JM}
theorem zR.own(h:zR w i c ep m q):xP q.dn w i c ep m:=⟨h.head,h.set,h.board,h.a1,h.a2,h.a3,h.a4⟩
theorem zR.put{w':Q}{m':MS}{f:Nat->Prop}(h:zR w i c ep m q)(a:xP q.dn w' i c ep m')(l:zk f w w')(j:∀k,f k->XS i k):zR w' i c ep m' q/\Kx i w w':=by
 obtain⟨b,d,e,g⟩:=h.jkept l j
 exact⟨⟨a.head,a.set,a.board,b,d,h.a1,h.a2,h.a3,h.a4,e⟩,g⟩
end
def MS.took(m:MS)(now:Int)(xs:List SX):MS:={m with now:=now,L:=(kA (m.Gl,m.L) xs).2,Gl:=(kA (m.Gl,m.L) xs).1}
theorem zhu{w:Q}{i:Ids}{c:Cf}{ep:Int}{m:MS}{q:JM}(h:zR w i c ep m q)(now:Int)(xs:List SX)(u:∀x∈xs,x.1.wf)(T:m.Gl.length+xs.length<=1000000000)(U:m.L.length+xs.length<=1000000000)(base:Nat)(v:Value)(hv:jG w base v xs):
  Calls prog 109 #[.pointer (E ⟨i.x,0,I⟩),.agg #[J O now,v]] w fun e w'=>e=.returned (.tuple #[])/\zR w' i c ep (m.took now xs) q/\Kx i w w':=by
 obtain⟨ad,cap,rfl⟩:=hv.slice
 obtain⟨n,j⟩:=h.setNow now
 have r:(w.setCell ⟨i.x,8,I⟩ (J O now)).1.size=w.1.size:=by simp
 obtain⟨Y,f⟩:∃Y,(w.setCell ⟨i.x,8,I⟩ (J O now)).alloc (.cells #[J O now,.slice ad xs.length cap] 190)=Y:=⟨_,rfl⟩
 have g:Below (w.setCell ⟨i.x,8,I⟩ (J O now)).1.size (w.setCell ⟨i.x,8,I⟩ (J O now)) Y:=by rw[<-f];exact(N _ _).alloc (Z _) _
 have o:Y.1[w.1.size]?=E (.cells #[J O now,.slice ad xs.length cap] 190 (0,0)):=by rw[<-f,<-r];exact zr _ _
 have d:=n.later g
 have l:=j.trans (Kx.below g n.dlt)
 have a3:¬w.1.size=i.x:=by have:=h.lt;omega
 have a0:¬i.x=w.1.size:=by have:=h.lt;omega
 have a4:=h.lt
 obtain⟨-,-,-,-,-,-,-,-,x8,-⟩:=zc h.head
 have xf:=zH h.head 8
 obtain⟨-,y1,-⟩:=zc o
 obtain⟨-,-,-,-,-,-,-,-,-,y9,-⟩:=zc d.head
 have p:zk (fun k=>k=i.x) w (w.setCell ⟨i.x,8,I⟩ (J O now)):=zq (zk.refl _ _) rfl
 have t:jG Y base (.slice ad xs.length cap) xs:=zM (zg hv p (fun k hk e=>by
  obtain⟨a2,hc⟩:=zz hv hk
  rw[e]at hc
  exact absurd (yy h.head hc) (by decide))) g
 have M:=fun W (hW:Below Y.1.size Y W)=>zd (zgW (d.later hW).set xs u T U base _ (zM t hW))
 have P:=M Y (N _ _)
 have R:=M Y.drew (N _ _).drew
 have H:=zd d
 have K:=zd (d.later (w':=Y.drew) (N _ _).drew)
 have F:=zd l
 have G:=zd (l.trans (Kx.below (w':=Y.drew) (N _ _).drew d.dlt))
 have a1:=zd d.foot_lt
 have z:¬i.x=i.lb:=fun e=>d.x_set i.lb (.inr (.inr (.inl rfl))) e.symm
 have A:¬i.x=i.gb:=fun e=>d.x_set i.gb (.inr (.inr (.inr rfl))) e.symm
 have B:¬w.1.size=i.lb:=fun e=>by have:=h.foot_lt i.lb (.inl (.inr (.inl (.inr (.inr (.inl rfl))))));omega
 have C:¬w.1.size=i.gb:=fun e=>by have:=h.foot_lt i.gb (.inl (.inr (.inl (.inr (.inr (.inr rfl))))));omega
 have lY:w.1.size<Y.1.size:=zb o
 have y:=d.lt
 have S:=zd f
 clear h d n l j g o f p t hv M u r
 go_enter func109,ntmps109
 go_wp2_with fail
 rw[ud S]
 go_region_held3 (fun w'=>w'.cell? ⟨i.x,9,I⟩=E (.pointer (E ⟨i.s,0,I⟩))/\w'.cell? ⟨w.1.size,1,I⟩=E (.slice ad xs.length cap)) (go_keep) (first
  |(go_at_call 170;(with_reducible refine(ud P).mono ?_);rintro e V ⟨rfl,b,a⟩;have v9:=(zF (i:=9) a (fun e=>e.elim z A) y).trans y9;have v1:=(zF (i:=1) a (fun e=>e.elim B C) lY).trans y1;have D:=zd ((ud H).putSet b (a.mono (fun k _ e=>e.elim (fun e=> .inr (.inr (.inl e))) (fun e=> .inr (.inr (.inr e))))));have X:=zd ((ud F).trans (ud D).2);clear b a)
  |(go_at_call 170;(with_reducible refine(ud R).mono ?_);rintro e V ⟨rfl,b,a⟩;have v9:=(zF (i:=9) a (fun e=>e.elim z A) y).trans y9;have v1:=(zF (i:=1) a (fun e=>e.elim B C) lY).trans y1;have D:=zd ((ud K).putSet b (a.mono (fun k _ e=>e.elim (fun e=> .inr (.inr (.inl e))) (fun e=> .inr (.inr (.inr e))))));have X:=zd ((ud G).trans (ud D).2);clear b a))
 all_goals go_wp2_with fail
 all_goals go_end0
 all_goals exact⟨rfl,(ud D).1,ud X⟩
theorem z11{w:Q}{g:Nat}{a0 b c a3 a4 a5 d e f a9 a:Value}{t:TypeId}{i:Nat×Nat}(h:w.1[g]?=E (.cells #[a0,b,c,a3,a4,a5,d,e,f,a9,a] t i)):w.cell? ⟨g,0,I⟩=E a0/\w.cell? ⟨g,1,I⟩=E b/\w.cell? ⟨g,2,I⟩=E c/\w.cell? ⟨g,3,I⟩=E a3/\w.cell? ⟨g,4,I⟩=E a4/\w.cell? ⟨g,5,I⟩=E a5/\w.cell? ⟨g,6,I⟩=E d/\w.cell? ⟨g,7,I⟩=E e/\w.cell? ⟨g,8,I⟩=E f/\w.cell? ⟨g,9,I⟩=E a9/\w.cell? ⟨g,10,I⟩=E a:=by
 refine⟨?_,?_,?_,?_,?_,?_,?_,?_,?_,?_,?_⟩<;>rw[xd h]<;>rfl
theorem zku{X V:Q}(h:Below X.drew.1.size X.drew V):Below X.1.size X V:=⟨h.os,h.tape,h.output,h.size,h.block⟩
def vK(u q:Int):Bool:=decide (3*q<4*u)
theorem zdw{dn:Bool}{w:Q}{i:Ids}{c:Cf}{ep:Int}{m:MS}(h:xP dn w i c ep m)(r:c.ok)(v:0<=zU m.L/\zU m.L<=1000):
  Calls prog 45 #[.pointer (E ⟨i.x,0,I⟩)] w fun e w'=>e=.returned (.bool (vK (zU m.L) c.qu))/\Below w.1.size w w':=by
 obtain⟨a,cap,k,j⟩:=h.ts
 obtain⟨B,C,D,F,G,H,p,-,-,K,-⟩:=h.cells
 rw[k]at p
 have A:=h.lt
 obtain⟨s,t⟩:=r.qu
 have n:=fun W q=>zd (ZI ((h.later (w':=W) q).set) (by unfold xR;omega))
 have l:=fun W=>zd (Xg c a cap W)
 obtain⟨y,z⟩:=v
 unfold vK
 generalize zU m.L=U at*
 clear h j
 go_enter func45,ntmps45
 go_wp2_with fail
 have g:Nonempty (zj w.1.size w):=zj.some _ _
 have f:=fun(u:zj w.1.size w) b o h=>u.cell b o h
 refine ze w.1.size (by kernel_rfl) (by kernel_rfl) ?_
 repeat(go_big_quiet_step (first
  |(go_at_call 43;exact Calls.later (Z _) (ud (n _ (Subtype.property _))))
  |(go_at_call 63;exact Calls.later (Z _) (ud (l _)))))
 refine wpQuiet_nil ?_
 rintro⟨M,d⟩
 clear f g
 dsimp only
 go_wp2_with fail
 go_ret
 exact⟨rfl,d⟩
theorem zcO{w:Q}{base g size:Nat}{e:TypeId}{cs:Array Value}(h:w.1[g]?=E (.cells cs e (0,0)))(b:cs.size=0)(a:base<=g):w.ownsRow base e size (.slice (E ⟨g,0,I⟩) 0 0) 0 []:=
 ⟨by simp,.inr ⟨g,0,cs,rfl,a,h,⟨Z _,by simp[maxLen],by simp[b],by simp⟩⟩⟩
theorem zdU(c:Cf)(D:c.ok)(a:Option Addr)(cap:Nat)(w:Q)(h:TS w a c.n c.F c.W c.K):
  Calls prog 129 #[.slice a c.n cap] w fun e w'=>∃g d,e=.returned (.slice (E ⟨g,0,I⟩) c.n d)/\w'.ownsRow w.1.size 80 3 (.slice (E ⟨g,0,I⟩) c.n d) c.n (ZM c.n c.F c.W c.K)/\Below w.1.size w w':=by
 have S:=D.n1
 have T:=D.n4
 have B:=zfO h
 obtain⟨ad,t,r⟩:=B (by rw[zW];omega)
 subst t
 have f:∀o,Below w.1.size w (w.alloc o):=fun o=>(N _ _).alloc (Z _) _
 have hnews:∀o,∀j u,(ZM c.n c.F c.W c.K)[j]?=E u->(w.alloc o).cell? (ad.add j)=E u:=fun o j u U=>by
  have C:=r j u U
  obtain⟨b,l,P,v,_⟩:=h (by omega)
  cases P
  have q:(⟨b,l,I⟩:Addr).add j=⟨b,l+j,I⟩:=by unfold Addr.add;split<;>simp_all
  rw[q]at C ⊢
  exact((f o).cell (p:=⟨b,l+j,I⟩) v).trans C
 have G:(binOp .eql 25 (.slice (E ad) c.n cap) (.slice I 0 0)).run prog w=.ok (.bool false) w:=by kernel_rfl
 have L:=zd hnews
 have x:0<c.n:=by omega
 have y:0+c.n<=maxLen:=by simp only[maxLen];omega
 have z:(0+c.n)*24<=140737488355328:=by omega
 have A:∀o,w.1.size<=(w.alloc o).1.size:=fun o=>by rw[zG];omega
 clear h B r hnews
 go_enter func129,ntmps129
 go_wp2_with(first|(at_builtin;refine zJ rfl _ _ 25 rfl w.1.size 80 _ 3 24 underlying25 Tryz.infoTierR rfl (by decide) (.slice (E ⟨w.1.size,0,I⟩) 0 0) 0 [] rfl (zcO (zr _ _) rfl (Z _)) ad c.n cap (ZM c.n c.F c.W c.K) rfl (zW _ _ _ _) (ud L _) (Vc _ _ _ _) x y z (A _) ?_;intro g m V s H i M R)|go_in)
 go_ret
 refine⟨g,m,by simp,by simpa using s,?_⟩
 exact(f _).grown i (f _).size (fun k e=>by cases e;exact Z _)
theorem set7{w:Q}{g:Nat}{a b c d e f i:Value}{t:TypeId}{n:Nat×Nat}(h:w.1[g]?=E (.cells #[a,b,c,d,e,f,i] t n))(j k l m o p q:Value):(((((((w.setCell ⟨g,0,I⟩ j).setCell ⟨g,1,I⟩ k).setCell ⟨g,2,I⟩ l).setCell ⟨g,3,I⟩ m).setCell ⟨g,4,I⟩ o).setCell ⟨g,5,I⟩ p).setCell ⟨g,6,I⟩ q).1[g]?=E (.cells #[j,k,l,m,o,p,q] t n):=by
 have r:(w.setCell ⟨g,0,I⟩ j).1[g]?=E (.cells #[j,b,c,d,e,f,i] t n):=xi (i:=0) h j
 have s:((w.setCell ⟨g,0,I⟩ j).setCell ⟨g,1,I⟩ k).1[g]?=E (.cells #[j,k,c,d,e,f,i] t n):=xi (i:=1) r k
 have u:(((w.setCell ⟨g,0,I⟩ j).setCell ⟨g,1,I⟩ k).setCell ⟨g,2,I⟩ l).1[g]?=E (.cells #[j,k,l,d,e,f,i] t n):=xi (i:=2) s l
 have v:((((w.setCell ⟨g,0,I⟩ j).setCell ⟨g,1,I⟩ k).setCell ⟨g,2,I⟩ l).setCell ⟨g,3,I⟩ m).1[g]?=E (.cells #[j,k,l,m,e,f,i] t n):=xi (i:=3) u m
 have x:(((((w.setCell ⟨g,0,I⟩ j).setCell ⟨g,1,I⟩ k).setCell ⟨g,2,I⟩ l).setCell ⟨g,3,I⟩ m).setCell ⟨g,4,I⟩ o).1[g]?=E (.cells #[j,k,l,m,o,f,i] t n):=xi (i:=4) v o
 have y:((((((w.setCell ⟨g,0,I⟩ j).setCell ⟨g,1,I⟩ k).setCell ⟨g,2,I⟩ l).setCell ⟨g,3,I⟩ m).setCell ⟨g,4,I⟩ o).setCell ⟨g,5,I⟩ p).1[g]?=E (.cells #[j,k,l,m,o,p,i] t n):=xi (i:=5) x p
 have z:(((((((w.setCell ⟨g,0,I⟩ j).setCell ⟨g,1,I⟩ k).setCell ⟨g,2,I⟩ l).setCell ⟨g,3,I⟩ m).setCell ⟨g,4,I⟩ o).setCell ⟨g,5,I⟩ p).setCell ⟨g,6,I⟩ q).1[g]?=E (.cells #[j,k,l,m,o,p,q] t n):=xi (i:=6) y q
 exact z
theorem zgB(c:Cf)(L:c.ok)(a:Option Addr)(cap:Nat)(w:Q)(h:TS w a c.n c.F c.W c.K):
  Calls prog 67 #[.agg #[J O c.s,J O c.le,J O c.la,J O c.wi,J O c.ke,J O c.qu,.slice a c.n cap]] w fun e w'=>∃g l,e=.returned (.agg #[J O c.s,J O c.le,J O c.la,J O c.wi,J O c.ke,J O c.qu,.slice (E ⟨g,0,I⟩) c.n l])/\w'.ownsRow w.1.size 80 3 (.slice (E ⟨g,0,I⟩) c.n l) c.n (ZM c.n c.F c.W c.K)/\Below w.1.size w w':=by
 obtain⟨D,M,p,P⟩:=box2 w (.cells #[J O c.s,J O c.le,J O c.la,J O c.wi,J O c.ke,J O c.qu,.slice a c.n cap] 27) (.cells #[J O 0,J O 0,J O 0,J O 0,J O 0,J O 0,.slice I 0 0] 89)
 have S:=zd (zdU c L a cap _ (h.below p))
 obtain⟨-,-,-,-,-,-,x6,-⟩:=zc D
 clear h
 go_enter func67,ntmps67
 have T:=zd D
 have U:=zd M
 have o:=zd p
 have G:=zd P
 clear D M p P
 go_wp2_with fail
 generalize((w.alloc (.cells #[J O c.s,J O c.le,J O c.la,J O c.wi,J O c.ke,J O c.qu,.slice a c.n cap] 27)).alloc (.cells #[J O 0,J O 0,J O 0,J O 0,J O 0,J O 0,.slice I 0 0] 89))=X at*
 refine(ud S).mono ?_
 rintro e z ⟨g,b,rfl,m,d⟩
 have t:w.1.size<X.1.size:=by rw[ud G];omega
 have C:w.1.size+1<X.1.size:=by rw[ud G];omega
 have u:=(d.block w.1.size t).trans (ud T)
 have x:=(d.block (w.1.size+1) C).trans (ud U)
 obtain⟨z0,z1,z2,z3,z4,z5,z6,-⟩:=zc u
 have zf:=fun j=>zH u j
 obtain⟨r0,r1,r2,r3,r4,r5,r6,-⟩:=zc x
 have rf:=fun j=>zH x j
 have E0:=zd u
 have R:=zd x
 have f:=zd m
 have A:=zd d
 clear u x m d
 go_wp2_with fail
 have B:=xx (w:=z) (g:=w.1.size) (i:=6) (k:=w.1.size+1) (v:=.slice (E ⟨g,0,I⟩) c.n b) (by omega)
 have Y:=set7 (B.trans (ud R)) (J O c.s) (J O c.le) (J O c.la) (J O c.wi) (J O c.ke) (J O c.qu) (.slice (E ⟨g,0,I⟩) c.n b)
 have r:Below X.1.size X z:=ud A
 have q:zk (fun k=>k=w.1.size\/k=w.1.size+1) z ((((((((z.setCell ⟨w.1.size,6,I⟩ (.slice (E ⟨g,0,I⟩) c.n b)).setCell ⟨w.1.size+1,0,I⟩ (J O c.s)).setCell ⟨w.1.size+1,1,I⟩ (J O c.le)).setCell ⟨w.1.size+1,2,I⟩ (J O c.la)).setCell ⟨w.1.size+1,3,I⟩ (J O c.wi)).setCell ⟨w.1.size+1,4,I⟩ (J O c.ke)).setCell ⟨w.1.size+1,5,I⟩ (J O c.qu)).setCell ⟨w.1.size+1,6,I⟩ (.slice (E ⟨g,0,I⟩) c.n b)):=
  zq (zq (zq (zq (zq (zq (zq (zq (zk.refl _ _) (.inl rfl)) (.inr rfl)) (.inr rfl)) (.inr rfl)) (.inr rfl)) (.inr rfl)) (.inr rfl)) (.inr rfl)
 refine bodyPost_ret (v:=.agg #[J O c.s,J O c.le,J O c.la,J O c.wi,J O c.ke,J O c.qu,.slice (E ⟨g,0,I⟩) c.n b]) (results_cell_row results67 _ _ (w.1.size+1) _ _ _ _ rfl Y underlying89 rfl (by kernel_rfl)) rfl ?_
 refine⟨g,b,rfl,?_,(ud o).trans ((r.mono (ud o).size).trans (q.below (Nat.le_trans (ud o).size r.size) (fun k y=>by rcases y with rfl|rfl<;>omega)))⟩
 refine yF (zg (ud f) q (fun k y=>?_)) (Nat.le_of_lt t)
 have:X.1.size<=k:=by
  have hg:k=g:=by simp[Value.ownBlock]at y;exact y.symm
  obtain⟨g2,H,hv,V,_⟩:=(ud f).form (by have:=L.n1;omega)
  cases hv;omega
 omega
theorem zhl(c:Cf)(a:Option Addr)(cap:Nat)(w:Q):
  Calls prog 68 #[.agg #[J O c.s,J O c.le,J O c.la,J O c.wi,J O c.ke,J O c.qu,.slice a c.n cap]] w fun e w'=>∃s lb gb,e=.returned (.pointer (E ⟨s,0,I⟩))/\w.1.size<=s/\w.1.size<=lb/\w.1.size<=gb/\gb≠lb/\w'.1[s]?=E (.cells #[J O c.s,J O c.le,J O c.la,J O c.wi,J O c.ke,J O c.qu,.slice a c.n cap,.map (E lb),.map (E gb)] 155 (0,0))/\qQ w' lb []/\xj vf w' gb []/\Below w.1.size w w':=by
 have j:∀W:Q,(Instr.makeMap 152 I).run prog W=.ok (.map (E W.1.size)) (W.alloc (.map #[] 0)):=fun W=>by kernel_rfl
 have k:∀W:Q,(Instr.makeMap 153 I).run prog W=.ok (.map (E W.1.size)) (W.alloc (.map #[] 0)):=fun W=>by kernel_rfl
 go_enter func68,ntmps68
 go_wp2_with fail
 go_ret
 obtain⟨i,f,g,b,h⟩:=Ys w (.cells #[J O c.s,J O c.le,J O c.la,J O c.wi,J O c.ke,J O c.qu,.slice a c.n cap] 89) (.map #[] 0) (.map #[] 0)
 generalize(((w.alloc (.cells #[J O c.s,J O c.le,J O c.la,J O c.wi,J O c.ke,J O c.qu,.slice a c.n cap] 89)).alloc (.map #[] 0)).alloc (.map #[] 0))=X at*
 have d:=zr X (.cells #[J O c.s,J O c.le,J O c.la,J O c.wi,J O c.ke,J O c.qu,.slice a c.n cap,.map (E (w.1.size+1)),.map (E (w.1.size+2))] 155)
 rw[h]at d
 refine⟨w.1.size+3,w.1.size+1,w.1.size+2,rfl,by omega,by omega,by omega,by omega,d,⟨#[],0,(Below.heap_alloc _ _ _ (by omega)).trans f,⟨rfl,by simp,by simp,by simp,by simp[zl],by simp⟩⟩,⟨#[],0,(Below.heap_alloc _ _ _ (by omega)).trans g,⟨rfl,by simp,by simp,by simp,by simp[zo],by simp⟩⟩,b.alloc b.size _⟩
theorem zcw(d:Nat)(w:Q):Calls prog 70 #[.pointer (E ⟨d,0,I⟩)] w fun e w'=>∃j,e=.returned (.pointer (E ⟨j,0,I⟩))/\w.1.size<=j/\w'.1[j]?=E (.cells #[.pointer (E ⟨d,0,I⟩),J O 0] 216 (0,0))/\Below w.1.size w w':=by
 go_enter func70,ntmps70
 go_wp2_with fail
 go_ret
 exact⟨_,rfl,Z _,zr _ _,(N _ _).alloc (Z _) _⟩
end Go.Proofs.YtndhpgciopcncaaGreatDoor
