import Derived.Test.YtndhpgciopcncaaGreatDoorPLad0
import Derived.Deep.RegionHeld3
import Derived.Test.YtndhpgciopcncaaGreatDoorPRefT
import Derived.Test.YtndhpgciopcncaaGreatDoorPAll0
open Option renaming some → J
open Go.RowKit.Below renaming refl → E
open Nat renaming le_refl → Q
open Go renaming World → Z
open Go.RowKit renaming Below → G
open Nat renaming lt_of_lt_of_le → P
set_option linter.unusedVariables false
set_option maxRecDepth 100000
set_option maxHeartbeats 8000000
open Go.Proofs.Tryz
namespace Go.Proofs.YtndhpgciopcncaaGreatDoor
open Go.ChangeMaps (setBlock)
open Go.RowKit Go.Maps Go.Shelf
structure xG(dn:Bool)(w:Z)(i:Ids)(c:Cf)(ep:Int)(m:MS):Prop where
 head:w.1[i.x]?=J (.cells #[I c.s,I c.le,I c.la,I c.wi,I c.ke,I c.qu,i.tv,I ep,I m.now,(O i.s),(O i.b),(O i.j),.bool dn] 94 (0,0))
 set:xE w i.s c i.tv i.lb i.gb m.Gl m.L
 board:zC w i.b c i.tv ep m.num i.tb i.qb m.TL m.QL
 a1:i.lb≠i.tb
 a2:i.lb≠i.qb
 a3:i.gb≠i.tb
 a4:i.gb≠i.qb
section
variable {dn:Bool} {w:Z} {i:Ids} {c:Cf} {ep:Int} {m:MS}
theorem xG.lt(h:xG dn w i c ep m):i.x<w.1.size:=zd h.head
theorem xG.kept{f:Nat->Prop}{w':Z}(h:xG dn w i c ep m)(b:zh f w w')(hn:∀k,ZM i k->¬f k):xG dn w' i c ep m:=
 ⟨b.heap h.head (hn i.x (.inl rfl)),h.set.kept b (fun k a=>hn k (.inr (.inl a))),h.board.kept b (fun k a=>hn k (.inr (.inr a))),h.a1,h.a2,h.a3,h.a4⟩
theorem xG.later{w':Z}(h:xG dn w i c ep m)(a:G w.1.size w w'):xG dn w' i c ep m:=h.kept (f:=fun _=>False) (zh.of_below a) (fun _ _ b=>b)
theorem xG.foot_lt(h:xG dn w i c ep m):∀k,ZM i k->k<w.1.size:=fun k a=>by
 rcases a with rfl|a|a
 ·exact h.lt
 ·exact h.set.foot_lt k a
 ·exact h.board.foot_lt k a
theorem xG.cells(h:xG dn w i c ep m):w.cell? (U i.x 0)=J (I c.s)/\w.cell? (U i.x 1)=J (I c.le)/\w.cell? (U i.x 2)=J (I c.la)/\w.cell? (U i.x 3)=J (I c.wi)/\w.cell? (U i.x 4)=J (I c.ke)/\w.cell? (U i.x 5)=J (I c.qu)/\w.cell? (U i.x 6)=J i.tv/\w.cell? (U i.x 7)=J (I ep)/\w.cell? (U i.x 8)=J (I m.now)/\w.cell? (U i.x 9)=J (O i.s)/\w.cell? (U i.x 10)=J (O i.b):=by
 refine⟨?_,?_,?_,?_,?_,?_,?_,?_,?_,?_,?_⟩<;>rw[xH h.head]<;>rfl
theorem xG.x_set(h:xG dn w i c ep m):∀k,jJ i.s i.tv i.lb i.gb k->k≠i.x:=fun k b e=>by
 subst e
 have a:=h.head
 rcases b with e|b|e|e
 ·rw[e,h.set.head]at a;cases a
 ·obtain⟨d,f⟩:=zH h.set.trow b
  rw[f]at a;cases a
 ·exact xD (qA.1 h.set.live) a e.symm
 ·exact xD h.set.gone a e.symm
theorem xG.x_board(h:xG dn w i c ep m):∀k,jT i.b i.tb i.qb k->k≠i.x:=fun k f e=>by
 subst e
 have a:=h.head
 rcases f with e|e|e
 ·rw[e,h.board.head]at a;injection a with a;injection a with g d;exact absurd d (by decide)
 ·exact xD h.board.td a e.symm
 ·exact xD h.board.leases a e.symm
theorem xG.parts(h:xG dn w i c ep m):∀k,jJ i.s i.tv i.lb i.gb k->¬jT i.b i.tb i.qb k:=fun k l n=>by
 rcases n with e|e|e
 ·have a:=h.board.head
  rw[<-e]at a
  rcases l with e|j|e|e
  ·rw[e,h.set.head]at a;cases a
  ·obtain⟨d,g⟩:=zH h.set.trow j
   rw[g]at a;cases a
  ·exact xD (qA.1 h.set.live) a e.symm
  ·exact xD h.set.gone a e.symm
 ·rcases l with f|j|f|f
  ·exact xD h.board.td h.set.head (by omega)
  ·obtain⟨d,g⟩:=zH h.set.trow j
   exact xD h.board.td g e.symm
  ·exact h.a1 (by omega)
  ·exact h.a3 (by omega)
 ·rcases l with f|j|f|f
  ·exact xD h.board.leases h.set.head (by omega)
  ·obtain⟨d,g⟩:=zH h.set.trow j
   exact xD h.board.leases g e.symm
  ·exact h.a2 (by omega)
  ·exact h.a4 (by omega)
theorem xG.setNow(h:xG dn w i c ep m)(n:Int):xG dn (w.setCell (U i.x 8) (I n)) i c ep {m with now:=n}:=by
 have b:zh (fun k=>k=i.x) w (w.setCell (U i.x 8) (I n)):=zg (zh.refl _ _) rfl
 exact⟨xy (i:=8) h.head (I n),h.set.kept b (fun k a=>h.x_set k a),h.board.kept b (fun k a=>h.x_board k a),h.a1,h.a2,h.a3,h.a4⟩
theorem xG.putBoard{w':Z}(h:xG dn w i c ep m){num:Int}{TL:List (Jk×Tsk)}{QL:List (Tok×Lse)}(d:zC w' i.b c i.tv ep num i.tb i.qb TL QL)(a:zh (jT i.b i.tb i.qb) w w'):xG dn w' i c ep {m with num:=num,TL:=TL,QL:=QL}:=
 ⟨a.heap h.head (fun e=>h.x_board _ e rfl),h.set.kept a (fun k f=>h.parts k f),d,h.a1,h.a2,h.a3,h.a4⟩
theorem xG.putSet{w':Z}(h:xG dn w i c ep m){L:LV}{Gl:List (Sg×Unit)}(b:xE w' i.s c i.tv i.lb i.gb Gl L)(a:zh (jJ i.s i.tv i.lb i.gb) w w'):xG dn w' i c ep {m with L:=L,Gl:=Gl}:=
 ⟨a.heap h.head (fun e=>h.x_set _ e rfl),b,h.board.kept a (fun k d e=>h.parts k e d),h.a1,h.a2,h.a3,h.a4⟩
theorem xG.ts(h:xG dn w i c ep m):∃a cap,i.tv=.slice a c.n cap/\TS w a c.n c.F c.W c.K:=by
 obtain⟨a,cap,e⟩:=zS h.set.trow
 exact⟨a,cap,e,TS.of_owns (e▸h.set.trow)⟩
theorem xG.cells2(h:xG dn w i c ep m):w.cell? (U i.x 11)=J (O i.j)/\w.cell? (U i.x 12)=J (.bool dn):=by
 refine⟨?_,?_⟩<;>rw[xH h.head]<;>rfl
end
section
variable {w:Z} {i:Ids} {c:Cf} {ep:Int} {m:MS} {q:JM}
theorem zQ.own(h:zQ w i c ep m q):xG q.dn w i c ep m:=⟨h.head,h.set,h.board,h.a1,h.a2,h.a3,h.a4⟩
theorem zQ.put{w':Z}{m':MS}{f:Nat->Prop}(h:zQ w i c ep m q)(a:xG q.dn w' i c ep m')(l:zh f w w')(j:∀k,f k->ZM i k):zQ w' i c ep m' q/\Kx i w w':=by
 obtain⟨b,d,e,g⟩:=h.jkept l j
 exact⟨⟨a.head,a.set,a.board,b,d,h.a1,h.a2,h.a3,h.a4,e⟩,g⟩
end
def MS.took(m:MS)(now:Int)(xs:List SX):MS:={m with now:=now,L:=(qh (m.Gl,m.L) xs).2,Gl:=(qh (m.Gl,m.L) xs).1}
theorem zmj{w:Z}{i:Ids}{c:Cf}{ep:Int}{m:MS}{q:JM}(h:zQ w i c ep m q)(now:Int)(xs:List SX)(u:∀x∈xs,x.1.wf)(X:m.Gl.length+xs.length<=1000000000)(a0:m.L.length+xs.length<=1000000000)(base:Nat)(v:Value)(hv:vW w base v xs):
  Calls prog 109 #[(O i.x),.agg #[I now,v]] w fun e w'=>e=.returned (.tuple #[])/\zQ w' i c ep (m.took now xs) q/\Kx i w w':=by
 obtain⟨ad,cap,rfl⟩:=hv.slice
 obtain⟨n,j⟩:=h.setNow now
 have r:(w.setCell (U i.x 8) (I now)).1.size=w.1.size:=by simp
 obtain⟨Y,f⟩:∃Y,(w.setCell (U i.x 8) (I now)).alloc (.cells #[I now,.slice ad xs.length cap] 190)=Y:=⟨_,rfl⟩
 have g:G (w.setCell (U i.x 8) (I now)).1.size (w.setCell (U i.x 8) (I now)) Y:=by rw[<-f];exact(E _ _).alloc (Q _) _
 have o:Y.1[w.1.size]?=J (.cells #[I now,.slice ad xs.length cap] 190 (0,0)):=by rw[<-f,<-r];exact zp _ _
 have d:=n.later g
 have l:=j.trans (Kx.below g n.dlt)
 have a4:¬w.1.size=i.x:=by have:=h.lt;omega
 have a1:¬i.x=w.1.size:=by have:=h.lt;omega
 have a5:=h.lt
 obtain⟨-,-,-,-,-,-,-,-,x8,-⟩:=zc h.head
 have xf:=zv h.head 8
 obtain⟨-,y1,-⟩:=zc o
 obtain⟨-,-,-,-,-,-,-,-,-,y9,-⟩:=zc d.head
 have p:zh (fun k=>k=i.x) w (w.setCell (U i.x 8) (I now)):=zg (zh.refl _ _) rfl
 have t:vW Y base (.slice ad xs.length cap) xs:=zR (zi hv p (fun k hk e=>by
  obtain⟨a3,hc⟩:=zH hv hk
  rw[e]at hc
  exact absurd (jM h.head hc) (by decide))) g
 have N:=fun W (hW:G Y.1.size Y W)=>ze (zec (d.later hW).set xs u X a0 base _ (zR t hW))
 have R:=N Y (E _ _)
 have S:=N Y.drew (E _ _).drew
 have K:=ze d
 have M:=ze (d.later (w':=Y.drew) (E _ _).drew)
 have F:=ze l
 have H:=ze (l.trans (Kx.below (w':=Y.drew) (E _ _).drew d.dlt))
 have a2:=ze d.foot_lt
 have z:¬i.x=i.lb:=fun e=>d.x_set i.lb (.inr (.inr (.inl rfl))) e.symm
 have A:¬i.x=i.gb:=fun e=>d.x_set i.gb (.inr (.inr (.inr rfl))) e.symm
 have B:¬w.1.size=i.lb:=fun e=>by have:=h.foot_lt i.lb (.inl (.inr (.inl (.inr (.inr (.inl rfl))))));omega
 have C:¬w.1.size=i.gb:=fun e=>by have:=h.foot_lt i.gb (.inl (.inr (.inl (.inr (.inr (.inr rfl))))));omega
 have lY:w.1.size<Y.1.size:=zd o
 have y:=d.lt
 have T:=ze f
 clear h d n l j g o f p t hv N u r
 go_enter func109,ntmps109
 go_wp2_with fail
 rw[ud T]
 go_region_held3 (fun w'=>w'.cell? (U i.x 9)=J (O i.s)/\w'.cell? (U w.1.size 1)=J (.slice ad xs.length cap)) (go_keep) (first
  |(go_at_call 170;(with_reducible refine(ud R).mono ?_);rintro e V ⟨rfl,b,a⟩;have v9:=(zM (i:=9) a (fun e=>e.elim z A) y).trans y9;have v1:=(zM (i:=1) a (fun e=>e.elim B C) lY).trans y1;have D:=ze ((ud K).putSet b (a.mono (fun k _ e=>e.elim (fun e=> .inr (.inr (.inl e))) (fun e=> .inr (.inr (.inr e))))));have HK:=ze ((ud F).trans (ud D).2);clear b a)
  |(go_at_call 170;(with_reducible refine(ud S).mono ?_);rintro e V ⟨rfl,b,a⟩;have v9:=(zM (i:=9) a (fun e=>e.elim z A) y).trans y9;have v1:=(zM (i:=1) a (fun e=>e.elim B C) lY).trans y1;have D:=ze ((ud M).putSet b (a.mono (fun k _ e=>e.elim (fun e=> .inr (.inr (.inl e))) (fun e=> .inr (.inr (.inr e))))));have HK:=ze ((ud H).trans (ud D).2);clear b a))
 all_goals go_wp2_with fail
 all_goals go_end0
 all_goals exact⟨rfl,(ud D).1,ud HK⟩
theorem z11{w:Z}{g:Nat}{a0 b a2 a3 a4 a5 c d e a9 a:Value}{t:TypeId}{f:Nat×Nat}(h:w.1[g]?=J (.cells #[a0,b,a2,a3,a4,a5,c,d,e,a9,a] t f)):w.cell? (U g 0)=J a0/\w.cell? (U g 1)=J b/\w.cell? (U g 2)=J a2/\w.cell? (U g 3)=J a3/\w.cell? (U g 4)=J a4/\w.cell? (U g 5)=J a5/\w.cell? (U g 6)=J c/\w.cell? (U g 7)=J d/\w.cell? (U g 8)=J e/\w.cell? (U g 9)=J a9/\w.cell? (U g 10)=J a:=by
 refine⟨?_,?_,?_,?_,?_,?_,?_,?_,?_,?_,?_⟩<;>rw[xH h]<;>rfl
theorem zpZ{X V:Z}(h:G X.drew.1.size X.drew V):G X.1.size X V:=⟨h.os,h.tape,h.output,h.size,h.block⟩
abbrev zcI:Value:=.agg #[I 0,I 0,I 0,I 0,I 0,I 0,I 0,I 0,I 0,I 0,I 0]
def yn(u q:Int):Bool:=decide (3*q<4*u)
theorem zqk(v:Value)(w:Z):(Instr.typeAssert (.iface 195 v) 99 195 true).run prog w=.ok (.tuple #[v,.bool true]) w:=by kernel_rfl
theorem zqj(v:Value)(w:Z):(Instr.typeAssert (.iface 197 v) 99 195 true).run prog w=.ok (.tuple #[.agg #[I 0,I 0,I 0],.bool false]) w:=by kernel_rfl
theorem zqi(v:Value)(w:Z):(Instr.typeAssert (.iface 197 v) 99 197 true).run prog w=.ok (.tuple #[v,.bool true]) w:=by kernel_rfl
theorem VZ{dn:Bool}{w:Z}{i:Ids}{c:Cf}{ep:Int}{m:MS}(h:xG dn w i c ep m)(q:c.ok)(t:0<=zJ m.L/\zJ m.L<=1000):
  Calls prog 45 #[(O i.x)] w (Rz w (.bool (yn (zJ m.L) c.qu))):=by
 obtain⟨a,cap,j,g⟩:=h.ts
 obtain⟨B,C,D,F,H,I,n,-,-,K,-⟩:=h.cells
 rw[j]at n
 have z:=h.lt
 obtain⟨r,s⟩:=q.qu
 have l:=fun W p=>ze (XY ((h.later (w':=W) p).set) (by unfold xg;omega))
 have k:=fun W=>ze (Qs c a cap W)
 obtain⟨v,y⟩:=t
 unfold yn
 generalize zJ m.L=A at*
 clear h g
 go_enter func45,ntmps45
 go_wp2_with fail
 have f:Nonempty (xc w.1.size w):=xc.some _ _
 have e:=fun(u:xc w.1.size w) b o h=>u.cell b o h
 refine zx w.1.size (by kernel_rfl) (by kernel_rfl) ?_
 repeat(go_big_quiet_step (first
  |(go_at_call 43;exact Calls.later (Q _) (ud (l _ (Subtype.property _))))
  |(go_at_call 63;exact Calls.later (Q _) (ud (k _)))))
 refine wpQuiet_nil ?_
 rintro⟨M,d⟩
 clear e f
 dsimp only
 go_wp2_with fail
 go_ret
 exact⟨rfl,d⟩
theorem zfB{w:Z}{base g size:Nat}{e:TypeId}{cs:Array Value}(h:w.1[g]?=J (.cells cs e (0,0)))(b:cs.size=0)(a:base<=g):w.ownsRow base e size (.slice (J (U g 0)) 0 0) 0 []:=
 ⟨by simp,.inr ⟨g,0,cs,rfl,a,h,⟨Q _,by simp[maxLen],by simp[b],by simp⟩⟩⟩
theorem zhs(c:Cf)(D:c.ok)(a:Option Addr)(cap:Nat)(w:Z)(h:TS w a c.n c.F c.W c.K):
  Calls prog 129 #[.slice a c.n cap] w fun e w'=>∃g d,e=.returned (.slice (J (U g 0)) c.n d)/\w'.ownsRow w.1.size 80 3 (.slice (J (U g 0)) c.n d) c.n (ZN c.n c.F c.W c.K)/\G w.1.size w w':=by
 have R:=D.n1
 have S:=D.n4
 have B:=zjN h
 obtain⟨ad,t,r⟩:=B (by rw[qv];omega)
 subst t
 have f:∀o,G w.1.size w (w.alloc o):=fun o=>(E _ _).alloc (Q _) _
 have hnews:∀o,∀j u,(ZN c.n c.F c.W c.K)[j]?=J u->(w.alloc o).cell? (ad.add j)=J u:=fun o j u T=>by
  have C:=r j u T
  obtain⟨b,l,N,v,_⟩:=h (by omega)
  cases N
  have q:((U b l):Addr).add j=(U b (l+j)):=by unfold Addr.add;split<;>simp_all
  rw[q]at C ⊢
  exact((f o).cell (p:=(U b (l+j))) v).trans C
 have H:(binOp .eql 25 (.slice (J ad) c.n cap) (.slice none 0 0)).run prog w=.ok (.bool false) w:=by kernel_rfl
 have L:=ze hnews
 have x:0<c.n:=by omega
 have y:0+c.n<=maxLen:=by simp only[maxLen];omega
 have z:(0+c.n)*24<=140737488355328:=by omega
 have A:∀o,w.1.size<=(w.alloc o).1.size:=fun o=>by rw[zN];omega
 clear h B r hnews
 go_enter func129,ntmps129
 go_wp2_with(first|(at_builtin;refine xM rfl _ _ 25 rfl w.1.size 80 _ 3 24 underlying25 Tryz.infoTierR rfl (by decide) (.slice (J (U w.1.size 0)) 0 0) 0 [] rfl (zfB (zp _ _) rfl (Q _)) ad c.n cap (ZN c.n c.F c.W c.K) rfl (qv _ _ _ _) (ud L _) (zek _ _ _ _) x y z (A _) ?_;intro g m V s I i M O)|go_in)
 go_ret
 refine⟨g,m,by simp,by simpa using s,?_⟩
 exact(f _).grown i (f _).size (fun k e=>by cases e;exact Q _)
theorem set7{w:Z}{g:Nat}{a b c d e f i:Value}{t:TypeId}{n:Nat×Nat}(h:w.1[g]?=J (.cells #[a,b,c,d,e,f,i] t n))(j k l m o p q:Value):(((((((w.setCell (U g 0) j).setCell (U g 1) k).setCell (U g 2) l).setCell (U g 3) m).setCell (U g 4) o).setCell (U g 5) p).setCell (U g 6) q).1[g]?=J (.cells #[j,k,l,m,o,p,q] t n):=by
 have r:(w.setCell (U g 0) j).1[g]?=J (.cells #[j,b,c,d,e,f,i] t n):=xy (i:=0) h j
 have s:((w.setCell (U g 0) j).setCell (U g 1) k).1[g]?=J (.cells #[j,k,c,d,e,f,i] t n):=xy (i:=1) r k
 have u:(((w.setCell (U g 0) j).setCell (U g 1) k).setCell (U g 2) l).1[g]?=J (.cells #[j,k,l,d,e,f,i] t n):=xy (i:=2) s l
 have v:((((w.setCell (U g 0) j).setCell (U g 1) k).setCell (U g 2) l).setCell (U g 3) m).1[g]?=J (.cells #[j,k,l,m,e,f,i] t n):=xy (i:=3) u m
 have x:(((((w.setCell (U g 0) j).setCell (U g 1) k).setCell (U g 2) l).setCell (U g 3) m).setCell (U g 4) o).1[g]?=J (.cells #[j,k,l,m,o,f,i] t n):=xy (i:=4) v o
 have y:((((((w.setCell (U g 0) j).setCell (U g 1) k).setCell (U g 2) l).setCell (U g 3) m).setCell (U g 4) o).setCell (U g 5) p).1[g]?=J (.cells #[j,k,l,m,o,p,i] t n):=xy (i:=5) x p
 have z:(((((((w.setCell (U g 0) j).setCell (U g 1) k).setCell (U g 2) l).setCell (U g 3) m).setCell (U g 4) o).setCell (U g 5) p).setCell (U g 6) q).1[g]?=J (.cells #[j,k,l,m,o,p,q] t n):=xy (i:=6) y q
 exact z
theorem zlj(c:Cf)(M:c.ok)(a:Option Addr)(cap:Nat)(w:Z)(h:TS w a c.n c.F c.W c.K):
  Calls prog 67 #[(cZz c a cap)] w fun e w'=>∃g l,e=.returned ((cZz c (J (U g 0)) l))/\w'.ownsRow w.1.size 80 3 (.slice (J (U g 0)) c.n l) c.n (ZN c.n c.F c.W c.K)/\G w.1.size w w':=by
 obtain⟨D,N,p,O⟩:=box2 w (.cells (aZz c a cap) 27) (.cells #[I 0,I 0,I 0,I 0,I 0,I 0,.slice none 0 0] 89)
 have S:=ze (zhs c M a cap _ (h.below p))
 obtain⟨-,-,-,-,-,-,x6,-⟩:=zc D
 clear h
 go_enter func67,ntmps67
 have T:=ze D
 have V:=ze N
 have o:=ze p
 have H:=ze O
 clear D N p O
 go_wp2_with fail
 generalize((w.alloc (.cells (aZz c a cap) 27)).alloc (.cells #[I 0,I 0,I 0,I 0,I 0,I 0,.slice none 0 0] 89))=X at*
 refine(ud S).mono ?_
 rintro e z ⟨g,b,rfl,m,d⟩
 have t:w.1.size<X.1.size:=by rw[ud H];omega
 have C:w.1.size+1<X.1.size:=by rw[ud H];omega
 have u:=(d.block w.1.size t).trans (ud T)
 have x:=(d.block (w.1.size+1) C).trans (ud V)
 obtain⟨z0,z1,z2,z3,z4,z5,z6,-⟩:=zc u
 have zf:=fun j=>zv u j
 obtain⟨r0,r1,r2,r3,r4,r5,r6,-⟩:=zc x
 have rf:=fun j=>zv x j
 have E0:=ze u
 have R:=ze x
 have f:=ze m
 have A:=ze d
 clear u x m d
 go_wp2_with fail
 have B:=zI (w:=z) (g:=w.1.size) (i:=6) (k:=w.1.size+1) (v:=.slice (J (U g 0)) c.n b) (by omega)
 have hf:=set7 (B.trans (ud R)) (I c.s) (I c.le) (I c.la) (I c.wi) (I c.ke) (I c.qu) (.slice (J (U g 0)) c.n b)
 have r:G X.1.size X z:=ud A
 have q:zh (fun k=>k=w.1.size\/k=w.1.size+1) z ((((((((z.setCell (U w.1.size 6) (.slice (J (U g 0)) c.n b)).setCell (U (w.1.size+1) 0) (I c.s)).setCell (U (w.1.size+1) 1) (I c.le)).setCell (U (w.1.size+1) 2) (I c.la)).setCell (U (w.1.size+1) 3) (I c.wi)).setCell (U (w.1.size+1) 4) (I c.ke)).setCell (U (w.1.size+1) 5) (I c.qu)).setCell (U (w.1.size+1) 6) (.slice (J (U g 0)) c.n b)):=
  zg (zg (zg (zg (zg (zg (zg (zg (zh.refl _ _) (.inl rfl)) (.inr rfl)) (.inr rfl)) (.inr rfl)) (.inr rfl)) (.inr rfl)) (.inr rfl)) (.inr rfl)
 refine bodyPost_ret (v:=(cZz c (J (U g 0)) b)) (results_cell_row results67 _ _ (w.1.size+1) _ _ _ _ rfl hf underlying89 rfl (by kernel_rfl)) rfl ?_
 refine⟨g,b,rfl,?_,(ud o).trans ((r.mono (ud o).size).trans (q.below (Nat.le_trans (ud o).size r.size) (fun k y=>by rcases y with rfl|rfl<;>omega)))⟩
 refine kq (zi (ud f) q (fun k y=>?_)) (Nat.le_of_lt t)
 have:X.1.size<=k:=by
  have hg:k=g:=by simp[Value.ownBlock]at y;exact y.symm
  obtain⟨g2,L,hv,Y,_⟩:=(ud f).form (by have:=M.n1;omega)
  cases hv;omega
 omega
theorem zlQ(c:Cf)(a:Option Addr)(cap:Nat)(w:Z):
  Calls prog 68 #[(cZz c a cap)] w fun e w'=>∃s lb gb,e=.returned (O s)/\w.1.size<=s/\w.1.size<=lb/\w.1.size<=gb/\gb≠lb/\w'.1[s]?=J (.cells #[I c.s,I c.le,I c.la,I c.wi,I c.ke,I c.qu,.slice a c.n cap,.map (J lb),.map (J gb)] 155 (0,0))/\yA w' lb []/\xe je w' gb []/\G w.1.size w w':=by
 have j:∀W:Z,(Instr.makeMap 152 none).run prog W=.ok (.map (J W.1.size)) (W.alloc (.map #[] 0)):=fun W=>by kernel_rfl
 have m2:∀W:Z,(Instr.makeMap 153 none).run prog W=.ok (.map (J W.1.size)) (W.alloc (.map #[] 0)):=fun W=>by kernel_rfl
 go_enter func68,ntmps68
 go_wp2_with fail
 go_ret
 obtain⟨i,f,g,b,h⟩:=J5 w (.cells (aZz c a cap) 89) (.map #[] 0) (.map #[] 0)
 generalize(((w.alloc (.cells (aZz c a cap) 89)).alloc (.map #[] 0)).alloc (.map #[] 0))=X at*
 have d:=zp X (.cells #[I c.s,I c.le,I c.la,I c.wi,I c.ke,I c.qu,.slice a c.n cap,.map (J (w.1.size+1)),.map (J (w.1.size+2))] 155)
 rw[h]at d
 refine⟨w.1.size+3,w.1.size+1,w.1.size+2,rfl,by omega,by omega,by omega,by omega,d,⟨#[],0,(Below.heap_alloc _ _ _ (by omega)).trans f,⟨rfl,by simp,by simp,by simp,by simp[zn],by simp⟩⟩,⟨#[],0,(Below.heap_alloc _ _ _ (by omega)).trans g,⟨rfl,by simp,by simp,by simp,by simp[zj],by simp⟩⟩,b.alloc b.size _⟩
theorem zfj(d:Nat)(w:Z):Calls prog 70 #[(O d)] w fun e w'=>∃j,e=.returned (O j)/\w.1.size<=j/\w'.1[j]?=J (.cells #[(O d),I 0] 216 (0,0))/\G w.1.size w w':=by
 go_enter func70,ntmps70
 go_wp2_with fail
 go_ret
 exact⟨_,rfl,Q _,zp _ _,(E _ _).alloc (Q _) _⟩
attribute [local go_sem] Oper.semAt_some
theorem ziP(now:Int)(TL:List (Jk×Tsk))(s:Sg):(qJ now TL s).length<=TL.length+1:=by
 unfold qJ;split
 ·omega
 ·rw[vi];split<;>omega
theorem ziO(now:Int)(TL:List (Jk×Tsk))(s:Sg):(ya now TL s).length<=TL.length+1:=by
 unfold ya;split
 ·omega
 ·rw[vi];split<;>omega
theorem Qz(now:Int):∀(l:List Sg) (TL:List (Jk×Tsk)),(l.foldl (qJ now) TL).length<=TL.length+l.length
 |[],TL=>by simp
 |s::l,TL=>by have a:=Qz now l (qJ now TL s);have b:=ziP now TL s;simp only[List.foldl_cons,List.length_cons];omega
theorem VR(now:Int):∀(l:List Sg) (TL:List (Jk×Tsk)),(l.foldl (ya now) TL).length<=TL.length+l.length
 |[],TL=>by simp
 |s::l,TL=>by have a:=VR now l (ya now TL s);have b:=ziO now TL s;simp only[List.foldl_cons,List.length_cons];omega
theorem zdK{c:Cf}{L ps:LV}(e:∀p∈L,inR c p.1)(h:ps.Perm L)(f:Sg->Bool)(s:Sg):s∈(((ps.map (fun p:Sg×SV=>zfO c p.1)).filter (fun x=>f x.1)).map (fun x:RSg c=>x.1))↔s∈zn L/\f s=true:=by
 constructor
 ·intro j
  obtain⟨q,i,rfl⟩:=List.mem_map.1 j
  obtain⟨d,b⟩:=List.mem_filter.1 i
  obtain⟨p,g,rfl⟩:=List.mem_map.1 d
  have a:=h.mem_iff.1 g
  rw[kL (e p a)]at b ⊢
  exact⟨List.mem_map.2 ⟨p,a,rfl⟩,b⟩
 ·rintro⟨d,b⟩
  obtain⟨p,a,rfl⟩:=List.mem_map.1 (show s∈L.map (·.1)from d)
  refine List.mem_map.2 ⟨zfO c p.1,List.mem_filter.2 ⟨List.mem_map.2 ⟨p,h.mem_iff.2 a,rfl⟩,?_⟩,kL (e p a)⟩
  rw[kL (e p a)];exact b
theorem JF{dn:Bool}{w:Z}{i:Ids}{c:Cf}{ep:Int}{m:MS}(h:xG dn w i c ep m)(hc:c.ok)(hL:∀p∈m.L,inR c p.1)(aS:m.L.length<=2000)(Y:0<=m.now/\m.now<=100000)(bu:m.TL.length<=50000):
  Calls prog 55 #[(O i.x)] w fun e w'=>e=.returned (.tuple #[])/\∃aL,xG dn w' i c ep {m with TL:=aL}/\zh (fun k=>k=i.tb) w w'/\xA c m aL:=by
 have bx:=h.lt
 have a:G w.1.size w (w.alloc (.cells #[(O i.x)] 38)):=(E _ _).alloc (Q _) _
 have q0:=zp w (.cells #[(O i.x)] 38)
 have qz:=zN w (.cells #[(O i.x)] 38)
 obtain⟨-,-,-,-,-,-,-,-,c8,c9,b9⟩:=(h.later a).cells
 obtain⟨p0,-⟩:=zc q0
 have av:=(h.later a).lt
 have au:=zd q0
 have al:=fun W hW=>ze (zbz ((h.later (w':=W) hW).set) hc hL aS m.now Y)
 have br:=fun W hW=>ze (vm ((h.later (w':=W) hW).set) hc hL m.now Y)
 have H:=ze h
 have Q0:=ze q0
 have QZ:=ze qz
 have ah:=ze a
 clear h q0 qz a
 refine(callsIn_wide (n:=7)).1 ?_
 refine callsIn_of_wp_marks func55 rfl trivial ?_ rfl
 simp only[ntmps55,sZz,Nat.reduceAdd,Nat.reduceSub]
 refine wpIn_wide.2 ?_
 go_wp2_with fail
 generalize(w.alloc (.cells #[(O i.x)] 38))=X at*
 have a8:=ud ah
 have bi:X.1.size=w.1.size+1:=ud QZ
 have bj:=a8.size
 have aH:=al X a8
 have aI:=al X.drew a8.drew
 have a5:=ze ((ud H).foot_lt)
 clear al a8 bj bi
 go_region_held3 (fun w'=>w'.cell? (U w.1.size 0)=J (O i.x)/\w'.cell? (U i.x 8)=J (I m.now)/\w'.cell? (U i.x 9)=J (O i.s)) (go_keep) (first
  |(go_at_call 112;(first|(with_reducible refine(ud aH).mono ?_)|(with_reducible refine(ud aI).mono ?_));rintro e X1 ⟨Bl,Bh,Bs,rfl,g,aM,aV⟩;have M:G X.1.size X X1:=⟨g.os,g.tape,g.output,g.size,g.block⟩;have p1:=(M.cell (p:=(U w.1.size 0)) au).trans p0;have d8:=(M.cell (p:=(U i.x 8)) av).trans c8;have d9:=(M.cell (p:=(U i.x 9)) av).trans c9;have aU:=P au M.size;have bp:=P av M.size;have ag:=ze M;have aW:=ze aM;have aK:=ze aV;clear g M aM aV aH aI))
 all_goals go_wp2_with fail
 all_goals
  have bz:=(ud ag).size
  have a2:G w.1.size w X1:=(ud ah).trans ((ud ag).mono (ud ah).size)
  have am:=(ud H).later a2
  have aP:=((ud ag).block _ au).trans (ud Q0)
  have bv:w.1.size<X1.1.size:=aU
  have bo:i.tb<w.1.size:=ud a5 i.tb (.inr (.inr (.inr (.inl rfl))))
  have S:∀k,ZM i k->k<X1.1.size:=fun k C=>by have:=ud a5 k C;omega
  have ao:∀k,(fun k=>k=i.tb) k->k<w.1.size+1/\¬jJ i.s i.tv i.lb i.gb k:=fun k e=>⟨by omega,fun y=>am.parts k y (.inr (.inl e))⟩
  have b5:=ze (ud aK (fun k=>k=i.tb) (fun k e=>⟨by have:=(ao k e).1;have:=ud QZ;show k<X.1.size;omega,(ao k e).2⟩))
  have b0:=ze am
  have aG:=ze aP
  have aA:=ze a2
  have aY:=ze S
  clear am aP a2 ao S aK p1 d8 d9 p0 c8 c9 b9
  refine(wpIn_wide (n:=7)).1 ?_
  refine qU (F:=Fence.wide) (n:=7) rfl (by omega) (gf:=194) (lb:=#[(O Bl),(O Bh)]) rfl trivial KH (ud b5 (X1.1.size+2) (by omega)) (Q _) (fun h k=>h.trans k) (fun W o o' h hc hw=>KX.putObj o' (by omega) (by omega) h hw) (E _ _) (fun _=>rfl)
   (fun b W=>xG dn W i c ep {m with TL:=(b.map (fun x:RSg c=>x.1)).foldl (qJ m.now) m.TL}/\KX (fun k=>k=i.tb) X1.1.size (X1.1.size+2) X1 W)
   (fun _ _ _=>False)
   (fun s A B a4 y u hr=>⟨y.1.kept (f:=fun k=>X1.1.size<=k) ⟨u.os,u.tape,u.output,u.size,fun k C hn=>u.block k C (fun e=>hn (hr k e.symm).1)⟩ (fun k C e=>by have:=ud aY k C;omega),KX.own (β:=Unit) (q:=X1.1.size) (Q _) () A B a4 y.2 u hr⟩)
   (fun _ _ _ _ _ y _ _=>y)
   ⟨ud b0,KX.refl _ _ _ _⟩
   (fun x a' W=>∃Bx,X1.1.size<=Bx/\W.1[Bx]?=J (.cells #[I x.1.t,I x.1.sr,I x.1.wn] 146 (0,0))/\a'={tmps:=#[(O i.x),(O w.1.size),(O Bx),undef,(O i.x),(O i.x),.pointer (J (U i.x 9)),(O i.s),(O i.x),(O i.x),.pointer (J (U i.x 8)),I m.now,.func (.func 194) #[] #[(O Bl),(O Bh)],.agg #[I x.1.t,I x.1.sr,I x.1.wn],undef,undef,undef,undef,undef,undef,undef,undef,undef,undef,undef,undef,undef,undef,undef,undef,undef,undef,undef,undef,undef,undef,undef,undef,undef,undef,undef,undef,undef,undef,undef,undef,undef,undef],defers:=[]})
   (fun x a' s A B a4 y u hr=>by
    obtain⟨Bx,h1,h2,h3⟩:=y
    exact⟨Bx,h1,zu h2 u (fun r e=>(hr r e).2),h3⟩) ?assign ?body ?done ?stop
  case assign=>
   rintro l b x W K ⟨R,i2⟩ hK
   have HK:=ze hK
   have ax:=i2.kept.size
   clear hK
   gi_wp2
   have a:=(E W.1.size W).alloc (Q _) (.cells #[I x.1.t,I x.1.sr,I x.1.wn] 146)
   exact ud HK _ _ (zk a) (KX.of_below a) ⟨R.later a,i2.trans (KX.of_below a)⟩ ⟨W.1.size,ax,zp _ _,rfl⟩
  case body=>
   rintro l b x a' W hl ⟨r,hr⟩ ⟨R,i2⟩ ⟨Bx,ba,hx,rfl⟩ bg
   have ax:=i2.kept.size
   have v:=qk i2 (ud aG) (by omega) (by omega)
   obtain⟨-,-,-,-,-,-,-,-,m8,-,bk⟩:=R.cells
   obtain⟨mp,-⟩:=zc v
   obtain⟨k0,k1,k2,-⟩:=zc hx
   have aa:=R.lt
   have a9:=zd v
   have bb:=zd hx
   dsimp only at m8
   have a1:=ze R
   have a6:=ze i2
   have a3:=x.2.1
   have z:((b.map (fun x:RSg c=>x.1)).foldl (qJ m.now) m.TL).length<=100000:=by
    have:=Qz m.now (b.map (fun x:RSg c=>x.1)) m.TL
    rw[List.length_map]at this;omega
   have ak:=ze (ziQ ((ud a1).later (E _ _).drew).board x.1 a3 m.now z)
   have aq:prog.follows .mixedOrders=true:=by kernel_rfl
   clear R i2 hx v hr z a3
   gi_wp2
   refine X5 11 aq (by kernel_rfl) ?_
   simp only[List.take_succ_cons,List.take_zero,List.drop_succ_cons,List.drop_zero]
   repeat still_step
   refine wpStill_nil ?_
   gi_wp2_with (first|(refine⟨trivial,?_⟩;gi_at_call 113;refine(CallsIn.inRound l (callsIn_wide.2 (ud ak))).mono ?_;rintro e V ⟨rfl,hB,hK⟩;have HB:=ze hB;have aj:=ze hK;clear hB hK)|gi_in)
   have d:zh (fun k=>k=i.tb) W V:=(zh.refl (fun k=>k=i.tb) W).drew.trans (ud aj) (fun _ _ e=>e)
   have ap:=(ud a1).putBoard (ud HB) (d.mono (fun k _ e=> .inr (.inl e)))
   refine⟨Xj d (by omega),Zw d (by omega),?_,(ud a6).trans (Zw d (by omega))⟩
   rw[List.map_append,List.foldl_append]
   exact ap
  case done=>
   rintro D xs W hD ⟨ps,hp,ab⟩ ⟨R,i2⟩ aO
   have b8:=ze ab
   have ad:((xs.map (fun x:RSg c=>x.1)).foldl (qJ m.now) m.TL).length<=52000:=by
    have:=Qz m.now (xs.map (fun x:RSg c=>x.1)) m.TL
    rw[List.length_map,ab]at this
    have h2:=yC (fun x=>yR c Bs m.L m.now x.1) (ps.map (fun p:Sg×SV=>zfO c p.1))
    rw[List.length_map,hp.length_eq]at h2
    rw[ab];omega
   have b6:=ze ad
   clear ab ad
   have a1:=ze R
   have a6:=ze i2
   have aE:=ze aO
   have b2:=ze hp
   clear R i2 aO hp
   gi_wp2
   have R:=ud a1
   have i2:=ud a6
   have ax:=i2.kept.size
   have v:=qk i2 (ud aG) (by omega) (by omega)
   obtain⟨-,-,-,-,-,-,-,-,m8,m9,-⟩:=R.cells
   dsimp only at m8
   obtain⟨mp,-⟩:=zc v
   have aa:=R.lt
   have a9:=zd v
   have aB:=ze (vm R.set hc hL m.now Y)
   have aC:=ze (vm (R.later (E _ _).drew).set hc hL m.now Y)
   have b3:=ze v
   clear R i2 v
   generalize aR:(xs.map (fun x:RSg c=>x.1)).foldl (qJ m.now) m.TL=T1 at*
   have b7:=ze aR
   clear aR
   go_wp2_with fail
   go_region_held3 (fun w'=>w'.cell? (U w.1.size 0)=J (O i.x)/\w'.cell? (U i.x 8)=J (I m.now)/\w'.cell? (U i.x 9)=J (O i.s)) (go_keep) (first
    |(go_at_call 114;(first|(with_reducible refine(ud aB).mono ?_)|(with_reducible refine(ud aC).mono ?_));rintro e X2 ⟨az,ay,rfl,j,af⟩;have N:G W.1.size W X2:=⟨j.os,j.tape,j.output,j.size,j.block⟩;have p2:=(N.cell (p:=(U w.1.size 0)) a9).trans mp;have n8:=(N.cell (p:=(U i.x 8)) aa).trans m8;have n9:=(N.cell (p:=(U i.x 9)) aa).trans m9;have bn:=P a9 N.size;have bq:=P aa N.size;have a0:=ze N;have ac:=ze af;clear j N af aB aC))
   all_goals go_wp2_with fail
   all_goals
    have bA:=(ud a0).size
    have an:=(ud a1).later (ud a0)
    have aQ:=((ud a0).block _ a9).trans (ud b3)
    have T:∀k,ZM i k->k<X2.1.size:=fun k C=>by have:=ud a5 k C;omega
    have ae:∀k,(fun k=>k=i.tb) k->k<W.1.size/\¬jJ i.s i.tv i.lb i.gb k:=fun k e=>⟨by omega,fun y=>an.parts k y (.inr (.inl e))⟩
    have aJ:=ze (ud ac (fun k=>k=i.tb) ae)
    have bd:=zd (ud aE)
    have aX:=ze (((ud a0).block _ bd).trans (ud aE))
    have bm:D≠i.tb:=by omega
    have b1:=ze an
    have b4:=ze aQ
    have aD:=ze T
    clear an aQ ae T ac p2 n8 n9 mp m8 m9
    refine(wpIn_wide (n:=7)).1 ?_
    refine qU (F:=Fence.wide) (n:=7) rfl (by omega) (gf:=194) (lb:=#[(O az),(O ay)]) rfl trivial KH (ud aJ (X2.1.size+2) (by omega)) (Q _) (fun h k=>h.trans k) (fun W o o' h hc hw=>KX.putObj o' (by omega) (by omega) h hw) (E _ _) (fun _=>rfl)
     (fun b V=>xG dn V i c ep {m with TL:=(b.map (fun x:RSg c=>x.1)).foldl (ya m.now) T1}/\KX (fun k=>k=i.tb) X2.1.size (X2.1.size+2) X2 V)
     (fun _ _ _=>False)
     (fun s A B a4 y u hr=>⟨y.1.kept (f:=fun k=>X2.1.size<=k) ⟨u.os,u.tape,u.output,u.size,fun k C hn=>u.block k C (fun e=>hn (hr k e.symm).1)⟩ (fun k C e=>by have:=ud aD k C;omega),KX.own (β:=Unit) (q:=X2.1.size) (Q _) () A B a4 y.2 u hr⟩)
     (fun _ _ _ _ _ y _ _=>y)
     ⟨ud b1,KX.refl _ _ _ _⟩
     (fun x a' V=>∃Bx,X2.1.size<=Bx/\V.1[Bx]?=J (.cells #[I x.1.t,I x.1.sr,I x.1.wn] 146 (0,0))/\a'={tmps:=#[(O i.x),(O w.1.size),undef,(O Bx),(O i.x),(O i.x),.pointer (J (U i.x 9)),(O i.s),(O i.x),(O i.x),.pointer (J (U i.x 8)),I m.now,.func (.func 194) #[] #[(O Bl),(O Bh)],undef,undef,undef,undef,undef,undef,undef,undef,undef,undef,undef,undef,undef,(O i.x),(O i.x),.pointer (J (U i.x 9)),(O i.s),(O i.x),(O i.x),.pointer (J (U i.x 8)),I m.now,.func (.func 194) #[] #[(O az),(O ay)],.agg #[I x.1.t,I x.1.sr,I x.1.wn],undef,undef,undef,undef,undef,undef,undef,undef,undef,undef,undef,undef],defers:=[]})
     (fun x a' s A B a4 y u hr=>by
      obtain⟨Bx,h1,h2,h3⟩:=y
      exact⟨Bx,h1,zu h2 u (fun r e=>(hr r e).2),h3⟩) ?assign2 ?body2 ?done2 ?stop2
    case assign2=>
     rintro l b x V K ⟨j1,j2⟩ hK
     have HK:=ze hK
     have aw:=j2.kept.size
     clear hK
     gi_wp2
     have a:=(E V.1.size V).alloc (Q _) (.cells #[I x.1.t,I x.1.sr,I x.1.wn] 146)
     exact ud HK _ _ (zk a) (KX.of_below a) ⟨j1.later a,j2.trans (KX.of_below a)⟩ ⟨V.1.size,aw,zp _ _,rfl⟩
    case body2=>
     rintro l b x a' V hl ⟨r,hr⟩ ⟨j1,j2⟩ ⟨Bx,ba,hx,rfl⟩ bg
     have aw:=j2.kept.size
     have ar:=qk j2 (ud b4) (by omega) (by omega)
     obtain⟨-,-,-,-,-,-,-,-,m8,-,bk⟩:=j1.cells
     obtain⟨mp,-⟩:=zc ar
     obtain⟨k0,k1,k2,-⟩:=zc hx
     have bw:=j1.lt
     have bt:=zd ar
     have bb:=zd hx
     dsimp only at m8
     have a7:=ze j1
     have ai:=ze j2
     have a3:=x.2.1
     have z:((b.map (fun x:RSg c=>x.1)).foldl (ya m.now) T1).length<=100000:=by
      have:=VR m.now (b.map (fun x:RSg c=>x.1)) T1
      have h9:=ud b6
      rw[List.length_map]at this;omega
     have ak:=ze (zbq ((ud a7).later (E _ _).drew).board x.1 a3 m.now z)
     have aq:prog.follows .mixedOrders=true:=by kernel_rfl
     clear j1 j2 hx ar hr z a3
     gi_wp2
     refine X5 11 aq (by kernel_rfl) ?_
     simp only[List.take_succ_cons,List.take_zero,List.drop_succ_cons,List.drop_zero]
     repeat still_step
     refine wpStill_nil ?_
     gi_wp2_with (first|(refine⟨trivial,?_⟩;gi_at_call 113;refine(CallsIn.inRound l (callsIn_wide.2 (ud ak))).mono ?_;rintro e U9 ⟨rfl,hB,hK⟩;have HB:=ze hB;have aj:=ze hK;clear hB hK)|gi_in)
     have d:zh (fun k=>k=i.tb) V U9:=(zh.refl (fun k=>k=i.tb) V).drew.trans (ud aj) (fun _ _ e=>e)
     have ap:=(ud a7).putBoard (ud HB) (d.mono (fun k _ e=> .inr (.inl e)))
     refine⟨Xj d (by omega),Zw d (by omega),?_,(ud ai).trans (Zw d (by omega))⟩
     rw[List.map_append,List.foldl_append]
     exact ap
    case done2=>
     rintro D2 ys V bs ⟨bl,aT,rfl⟩ ⟨j1,j2⟩ hK2
     have a7:=ze j1
     have ai:=ze j2
     have aZ:=ze hK2
     have aF:=ze aT
     clear j1 j2 hK2 aT
     gi_wp2
     have j1:=ud a7
     have j2:=ud ai
     have aw:=j2.kept.size
     have bc:=qk j2 (ud aX) (by omega) (by omega)
     have bh:D≠D2:=by omega
     have aN:=(World.putObj_heap_other (o:=.deferred none) (w:=V) bh).trans bc
     refine⟨by simp,.inl ⟨_,_,rfl,run_takeDeferred (ud aZ),⟨by simp,.inl ⟨_,_,rfl,run_takeDeferred aN,?_⟩⟩⟩⟩
     have kp:zh (fun k=>k=D2\/k=D) V ((V.putObj D2 (.deferred none)).putObj D (.deferred none)):=
      ((zh.refl (fun k=>k=D2\/k=D) V).grown (grownBy_putObj' V D2 (.deferred none)) (fun k e _=>by cases e;exact .inl rfl)).grown (grownBy_putObj' _ D (.deferred none)) (fun k e _=>by cases e;exact .inr rfl)
     have bf:=(zh.of_below (f:=fun k=>k=i.tb) (ud aA)).trans (ud a6).kept (fun k C e=>e.elim id (by omega))
     have d:=(bf.trans (zh.of_below (f:=fun k=>k=i.tb) (ud a0)) (fun _ _ e=>e)).trans j2.kept (fun k C e=>e.elim id (by omega))
     have be:=d.trans kp (fun k C e=>by omega)
     refine⟨_,results_none rfl _ _ _,rfl,_,j1.kept kp (fun k C e=>by have:=ud a5 k C;omega),be,⟨Bs,xs.map (fun x:RSg c=>x.1),(((bl.map (fun p:Sg×SV=>zfO c p.1)).filter (fun x=>yQ c m.L m.now x.1)).map (fun x:RSg c=>x.1)),ud aW,fun s=>?_,fun s=>zdK hL (ud aF) (fun s=>yQ c m.L m.now s) s,by rw[ud b7]⟩⟩
     ·rw[ud b8];exact zdK hL (ud b2) (fun s=>yR c Bs m.L m.now s) s
    case stop2=>
     rintro D c b W _ _ h _
     exact h.elim
  case stop=>
   rintro D c b W _ _ h _
   exact h.elim
def xS(now:Int)(xs:List SX):ByteArray:=⟨(Xn now xs).toArray⟩
theorem Zh(now:Int)(xs:List SX):(xS now xs).size=(Xn now xs).length:=by simp[xS,ByteArray.size]
theorem jv{w w':Z}(h:Qe w)(a:G w.1.size w w'):Qe w':=zbM h a
theorem zQ.cells{w:Z}{i:Ids}{c:Cf}{ep:Int}{m:MS}{q:JM}(h:zQ w i c ep m q):w.cell? (U i.x 8)=J (I m.now)/\w.cell? (U i.x 9)=J (O i.s)/\w.cell? (U i.x 10)=J (O i.b)/\w.cell? (U i.x 11)=J (O i.j)/\w.cell? (U i.x 12)=J (.bool q.dn):=by
 refine⟨?_,?_,?_,?_,?_⟩<;>rw[xH h.head]<;>rfl
theorem VI{w:Z}{i:Ids}{c:Cf}{ep:Int}{m:MS}{q:JM}(h:zQ w i c ep m q)(o:xg m.now)(z:∀x∈vA m.L m.Gl,okX x)(a4:m.L.length<=1000000)(a9:m.Gl.length<=50000000)(N:Nat)(hN:N<=1000000000000)(hd:DOk q.S N):
  Calls prog 73 #[(O i.x)] w fun e w'=>∃a:List SX,a.Perm (vA m.L m.Gl)/\e=.returned (.bool (Vb q.S (xS m.now a)))/\zQ w' i c ep m {q with st:=JO q.S (xS m.now a) q.st,S:=zei q.S (xS m.now a)}/\Kx i w w':=by
 obtain⟨x8,x9,-,a8,-⟩:=h.cells
 have X:=h.lt
 have Y:=fun W (A:G w.1.size w W)=>ze (zmY (h.later A).set a4 (by omega))
 have a0:=Y w (E _ _)
 have a1:=Y w.drew (E _ _).drew
 have u:=fun(a:List SX) (v:Value) W (k:a.Perm (vA m.L m.Gl)) (A:G w.1.size w W) (hr:SRd W v a)=>ze (zbV m.now o a (fun x hx=>z x (k.mem_iff.1 hx)) (by rw[k.length_eq];unfold vA;rw[List.length_append,List.length_map];omega) v W hr (jv h.tab A))
 have t:=fun(a:List SX) W (k:a.Perm (vA m.L m.Gl)) (A:G w.1.size w W)=>(by
  obtain⟨fs,hj⟩:=(h.later A).jrn
  have aa:(xS m.now a).size<=20000000000:=by
   rw[Zh]
   have h1:=jG o (fun x hx=>z x (k.mem_iff.1 hx))
   have h2:=k.length_eq
   unfold vA at h2
   rw[List.length_append,List.length_map]at h2
   omega
  exact(zjf hj (xS m.now a) N (by omega) hd).mono fun e w' ⟨he,hE⟩=>(⟨he,(h.later A).putJrn hj hE⟩:e=.returned (.bool (Vb q.S (xS m.now a)))/\zQ w' i c ep m {q with st:=JO q.S (xS m.now a) q.st,S:=zei q.S (xS m.now a)}/\Kx i W w'):Calls prog 133 #[(O i.j),.string (xS m.now a)] W fun e w'=>e=.returned (.bool (Vb q.S (xS m.now a)))/\zQ w' i c ep m {q with st:=JO q.S (xS m.now a) q.st,S:=zei q.S (xS m.now a)}/\Kx i W w')
 have C:=ze h.dlt
 clear h Y hd z
 go_enter func73,ntmps73
 go_wp2_with fail
 go_region_held3 (fun w'=>w'.cell? (U i.x 8)=J (I m.now)/\w'.cell? (U i.x 9)=J (O i.s)/\w'.cell? (U i.x 11)=J (O i.j)) (go_keep) (first
  |(go_at_call 134;(first|(with_reducible refine(ud a0).mono ?_)|(with_reducible refine(ud a1).mono ?_));rintro e V ⟨a,v,k,rfl,l,d⟩;have f:G w.1.size w V:=⟨d.os,d.tape,d.output,d.size,d.block⟩;have v8:=(f.cell (p:=(U i.x 8)) X).trans x8;have v9:=(f.cell (p:=(U i.x 9)) X).trans x9;have a7:=(f.cell (p:=(U i.x 11)) X).trans a8;have R:=P X f.size;have a2:=u a v V k f l;have a3:=u a v V.drew k f.drew (l.later (E _ _).drew);have B:=ze f;have r:=ze k;obtain⟨va,vc,a5⟩:=l.slice;subst a5;clear f d l k u)
  |(go_at_call 108;(first|(with_reducible refine(ud a2).mono ?_)|(with_reducible refine(ud a3).mono ?_));rintro e M ⟨rfl,b⟩;have g:G V.1.size V M:=⟨b.os,b.tape,b.output,b.size,b.block⟩;have u8:=(g.cell (p:=(U i.x 8)) R).trans v8;have u9:=(g.cell (p:=(U i.x 9)) R).trans v9;have ab:=(g.cell (p:=(U i.x 11)) R).trans a7;have n:G w.1.size w M:=(ud B).trans (g.mono (ud B).size);have lU:=P R g.size;have D:=ze (t a M (ud r) n);have F:=ze (t a M.drew (ud r) n.drew);unfold xS at D F;have H:=ze n;clear g b n t)
  |(go_at_call 133;(with_reducible refine(ud D).mono ?_);rintro e T ⟨rfl,y,K⟩;obtain⟨t8,t9,-,a6,-⟩:=y.cells;have HM:=ze y;have HK:=ze ((Kx.below (ud H) (ud C)).trans K);clear y K)
  |(go_at_call 133;(with_reducible refine(ud F).mono ?_);rintro e T ⟨rfl,y,K⟩;obtain⟨t8,t9,-,a6,-⟩:=y.cells;have HM:=ze y;have HK:=ze ((Kx.below (ud H).drew (ud C)).trans K);clear y K))
 all_goals go_wp2_with fail
 all_goals go_ret
 all_goals exact⟨a,ud r,rfl,ud HM,ud HK⟩
end Go.Proofs.YtndhpgciopcncaaGreatDoor
