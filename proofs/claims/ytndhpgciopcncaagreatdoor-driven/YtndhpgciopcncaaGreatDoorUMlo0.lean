import Derived.Test.YtndhpgciopcncaaGreatDoorUMla0
import Derived.Deep.RegionHeld3
open Option renaming none → I
open Option renaming some → J
open Go.RowKit.Below renaming refl → O
open Go.Value (int)
open Go.IntKind (i64)
set_option linter.unusedVariables false
set_option maxRecDepth 8000
set_option maxHeartbeats 4000000
namespace Go.Proofs.YtndhpgciopcncaaGreatDoor
open Go.RowKit Go.Maps Go.Shelf
structure xz(dn:Bool)(w:World)(i:Ids)(c:Cf)(ep:Int)(m:MS):Prop where
 head:w.1[i.x]?=J (.cells #[int i64 c.s,int i64 c.le,int i64 c.la,int i64 c.wi,int i64 c.ke,int i64 c.qu,i.tv,int i64 ep,int i64 m.now,.pointer (J ⟨i.s,0,I⟩),.pointer (J ⟨i.b,0,I⟩),.pointer (J ⟨i.j,0,I⟩),.bool dn] 94 (0,0))
 set:xt w i.s c i.tv i.lb i.gb m.Gl m.L
 board:zA w i.b c i.tv ep m.num i.tb i.qb m.TL m.QL
 a1:i.lb≠i.tb
 a2:i.lb≠i.qb
 a3:i.gb≠i.tb
 a4:i.gb≠i.qb
section
variable {dn:Bool} {w:World} {i:Ids} {c:Cf} {ep:Int} {m:MS}
theorem xz.lt(h:xz dn w i c ep m):i.x<w.1.size:=za h.head
theorem xz.kept{f:Nat->Prop}{w':World}(h:xz dn w i c ep m)(b:zo f w w')(hn:∀k,jm i k->¬f k):xz dn w' i c ep m:=
 ⟨b.heap h.head (hn i.x (.inl rfl)),h.set.kept b (fun k a=>hn k (.inr (.inl a))),h.board.kept b (fun k a=>hn k (.inr (.inr a))),h.a1,h.a2,h.a3,h.a4⟩
theorem xz.later{w':World}(h:xz dn w i c ep m)(a:Below w.1.size w w'):xz dn w' i c ep m:=h.kept (f:=fun _=>False) (zo.of_below a) (fun _ _ b=>b)
theorem xz.foot_lt(h:xz dn w i c ep m):∀k,jm i k->k<w.1.size:=fun k a=>by
 rcases a with rfl|a|a
 ·exact h.lt
 ·exact h.set.foot_lt k a
 ·exact h.board.foot_lt k a
theorem xz.cells(h:xz dn w i c ep m):w.cell? ⟨i.x,0,I⟩=J (int i64 c.s)/\w.cell? ⟨i.x,1,I⟩=J (int i64 c.le)/\w.cell? ⟨i.x,2,I⟩=J (int i64 c.la)/\w.cell? ⟨i.x,3,I⟩=J (int i64 c.wi)/\w.cell? ⟨i.x,4,I⟩=J (int i64 c.ke)/\w.cell? ⟨i.x,5,I⟩=J (int i64 c.qu)/\w.cell? ⟨i.x,6,I⟩=J i.tv/\w.cell? ⟨i.x,7,I⟩=J (int i64 ep)/\w.cell? ⟨i.x,8,I⟩=J (int i64 m.now)/\w.cell? ⟨i.x,9,I⟩=J (.pointer (J ⟨i.s,0,I⟩))/\w.cell? ⟨i.x,10,I⟩=J (.pointer (J ⟨i.b,0,I⟩)):=by
 refine⟨?_,?_,?_,?_,?_,?_,?_,?_,?_,?_,?_⟩<;>rw[xD h.head]<;>rfl
theorem xz.x_set(h:xz dn w i c ep m):∀k,vp i.s i.tv i.lb i.gb k->k≠i.x:=fun k b e=>by
 subst e
 have a:=h.head
 rcases b with e|b|e|e
 ·rw[e,h.set.head]at a;cases a
 ·obtain⟨d,f⟩:=zG h.set.trow b
  rw[f]at a;cases a
 ·exact xp (xX.1 h.set.live) a e.symm
 ·exact xp h.set.gone a e.symm
theorem xz.x_board(h:xz dn w i c ep m):∀k,vv i.b i.tb i.qb k->k≠i.x:=fun k f e=>by
 subst e
 have a:=h.head
 rcases f with e|e|e
 ·rw[e,h.board.head]at a;injection a with a;injection a with g d;exact absurd d (by decide)
 ·exact xp h.board.td a e.symm
 ·exact xp h.board.leases a e.symm
theorem xz.parts(h:xz dn w i c ep m):∀k,vp i.s i.tv i.lb i.gb k->¬vv i.b i.tb i.qb k:=fun k l n=>by
 rcases n with e|e|e
 ·have a:=h.board.head
  rw[<-e]at a
  rcases l with e|j|e|e
  ·rw[e,h.set.head]at a;cases a
  ·obtain⟨d,g⟩:=zG h.set.trow j
   rw[g]at a;cases a
  ·exact xp (xX.1 h.set.live) a e.symm
  ·exact xp h.set.gone a e.symm
 ·rcases l with f|j|f|f
  ·exact xp h.board.td h.set.head (by omega)
  ·obtain⟨d,g⟩:=zG h.set.trow j
   exact xp h.board.td g e.symm
  ·exact h.a1 (by omega)
  ·exact h.a3 (by omega)
 ·rcases l with f|j|f|f
  ·exact xp h.board.leases h.set.head (by omega)
  ·obtain⟨d,g⟩:=zG h.set.trow j
   exact xp h.board.leases g e.symm
  ·exact h.a2 (by omega)
  ·exact h.a4 (by omega)
theorem xz.setNow(h:xz dn w i c ep m)(n:Int):xz dn (w.setCell ⟨i.x,8,I⟩ (int i64 n)) i c ep {m with now:=n}:=by
 have b:zo (fun k=>k=i.x) w (w.setCell ⟨i.x,8,I⟩ (int i64 n)):=zi (zo.refl _ _) rfl
 exact⟨xy (i:=8) h.head (int i64 n),h.set.kept b (fun k a=>h.x_set k a),h.board.kept b (fun k a=>h.x_board k a),h.a1,h.a2,h.a3,h.a4⟩
theorem xz.putBoard{w':World}(h:xz dn w i c ep m){num:Int}{TL:List (Jk×Tsk)}{QL:List (Tok×Lse)}(d:zA w' i.b c i.tv ep num i.tb i.qb TL QL)(a:zo (vv i.b i.tb i.qb) w w'):xz dn w' i c ep {m with num:=num,TL:=TL,QL:=QL}:=
 ⟨a.heap h.head (fun e=>h.x_board _ e rfl),h.set.kept a (fun k f=>h.parts k f),d,h.a1,h.a2,h.a3,h.a4⟩
theorem xz.putSet{w':World}(h:xz dn w i c ep m){L:LV}{Gl:List (Sg×Unit)}(b:xt w' i.s c i.tv i.lb i.gb Gl L)(a:zo (vp i.s i.tv i.lb i.gb) w w'):xz dn w' i c ep {m with L:=L,Gl:=Gl}:=
 ⟨a.heap h.head (fun e=>h.x_set _ e rfl),b,h.board.kept a (fun k d e=>h.parts k e d),h.a1,h.a2,h.a3,h.a4⟩
theorem xz.ts(h:xz dn w i c ep m):∃a cap,i.tv=.slice a c.n cap/\TS w a c.n c.F c.W c.K:=by
 obtain⟨a,cap,e⟩:=zS h.set.trow
 exact⟨a,cap,e,TS.of_owns (e▸h.set.trow)⟩
theorem xz.cells2(h:xz dn w i c ep m):w.cell? ⟨i.x,11,I⟩=J (.pointer (J ⟨i.j,0,I⟩))/\w.cell? ⟨i.x,12,I⟩=J (.bool dn):=by
 refine⟨?_,?_⟩<;>rw[xD h.head]<;>rfl
end
section
variable {w:World} {i:Ids} {c:Cf} {ep:Int} {m:MS} {q:JM}
theorem zN.own(h:zN w i c ep m q):xz q.dn w i c ep m:=⟨h.head,h.set,h.board,h.a1,h.a2,h.a3,h.a4⟩
theorem zN.put{w':World}{m':MS}{f:Nat->Prop}(h:zN w i c ep m q)(a:xz q.dn w' i c ep m')(l:zo f w w')(j:∀k,f k->jm i k):zN w' i c ep m' q/\Kx i w w':=by
 obtain⟨b,d,e,g⟩:=h.jkept l j
 exact⟨⟨a.head,a.set,a.board,b,d,h.a1,h.a2,h.a3,h.a4,e⟩,g⟩
end
def MS.took(m:MS)(now:Int)(xs:List SX):MS:={m with now:=now,L:=(yB (m.Gl,m.L) xs).2,Gl:=(yB (m.Gl,m.L) xs).1}
theorem zfS{w:World}{i:Ids}{c:Cf}{ep:Int}{m:MS}{q:JM}(h:zN w i c ep m q)(now:Int)(xs:List SX)(u:∀x∈xs,x.1.wf)(Q:m.Gl.length+xs.length<=1000000000)(R:m.L.length+xs.length<=1000000000)(base:Nat)(v:Value)(hv:vu w base v xs):
  Calls Tryz.prog 109 #[.pointer (J ⟨i.x,0,I⟩),.agg #[int i64 now,v]] w fun e w'=>e=.returned (.tuple #[])/\zN w' i c ep (m.took now xs) q/\Kx i w w':=by
 obtain⟨ad,cap,rfl⟩:=hv.slice
 obtain⟨n,j⟩:=h.setNow now
 have r:(w.setCell ⟨i.x,8,I⟩ (int i64 now)).1.size=w.1.size:=by simp
 obtain⟨Y,f⟩:∃Y,(w.setCell ⟨i.x,8,I⟩ (int i64 now)).alloc (.cells #[int i64 now,.slice ad xs.length cap] 190)=Y:=⟨_,rfl⟩
 have g:Below (w.setCell ⟨i.x,8,I⟩ (int i64 now)).1.size (w.setCell ⟨i.x,8,I⟩ (int i64 now)) Y:=by rw[<-f];exact(O _ _).alloc (Nat.le_refl _) _
 have o:Y.1[w.1.size]?=J (.cells #[int i64 now,.slice ad xs.length cap] 190 (0,0)):=by rw[<-f,<-r];exact zm _ _
 have d:=n.later g
 have l:=j.trans (Kx.below g n.dlt)
 have a2:¬w.1.size=i.x:=by have:=h.lt;omega
 have X:¬i.x=w.1.size:=by have:=h.lt;omega
 have a3:=h.lt
 obtain⟨-,-,-,-,-,-,-,-,x8,-⟩:=zc h.head
 have xf:=zE h.head 8
 obtain⟨-,y1,-⟩:=zc o
 obtain⟨-,-,-,-,-,-,-,-,-,y9,-⟩:=zc d.head
 have p:zo (fun k=>k=i.x) w (w.setCell ⟨i.x,8,I⟩ (int i64 now)):=zi (zo.refl _ _) rfl
 have t:vu Y base (.slice ad xs.length cap) xs:=xm (zk hv p (fun k hk e=>by
  obtain⟨a1,U⟩:=zG hv hk
  rw[e]at U
  exact absurd (jj h.head U) (by decide))) g
 have K:=fun W (T:Below Y.1.size Y W)=>zd (zfr (d.later T).set xs u Q R base _ (xm t T))
 have M:=K Y (O _ _)
 have N:=K Y.drew (O _ _).drew
 have G:=zd d
 have H:=zd (d.later (w':=Y.drew) (O _ _).drew)
 have E:=zd l
 have F:=zd (l.trans (Kx.below (w':=Y.drew) (O _ _).drew d.dlt))
 have a0:=zd d.foot_lt
 have z:¬i.x=i.lb:=fun e=>d.x_set i.lb (.inr (.inr (.inl rfl))) e.symm
 have A:¬i.x=i.gb:=fun e=>d.x_set i.gb (.inr (.inr (.inr rfl))) e.symm
 have B:¬w.1.size=i.lb:=fun e=>by have:=h.foot_lt i.lb (.inl (.inr (.inl (.inr (.inr (.inl rfl))))));omega
 have C:¬w.1.size=i.gb:=fun e=>by have:=h.foot_lt i.gb (.inl (.inr (.inl (.inr (.inr (.inr rfl))))));omega
 have Z:w.1.size<Y.1.size:=za o
 have y:=d.lt
 have P:=zd f
 clear h d n l j g o f p t hv K u r
 go_enter Tryz.func109,Tryz.ntmps109
 go_wp2_with fail
 rw[ud P]
 go_region_held3 (fun w'=>w'.cell? ⟨i.x,9,I⟩=J (.pointer (J ⟨i.s,0,I⟩))/\w'.cell? ⟨w.1.size,1,I⟩=J (.slice ad xs.length cap)) (go_keep) (first
  |(go_at_call 170;(with_reducible refine(ud M).mono ?_);rintro e V ⟨rfl,b,a⟩;have v9:=(zM (i:=9) a (fun e=>e.elim z A) y).trans y9;have v1:=(zM (i:=1) a (fun e=>e.elim B C) Z).trans y1;have D:=zd ((ud G).putSet b (a.mono (fun k _ e=>e.elim (fun e=> .inr (.inr (.inl e))) (fun e=> .inr (.inr (.inr e))))));have S:=zd ((ud E).trans (ud D).2);clear b a)
  |(go_at_call 170;(with_reducible refine(ud N).mono ?_);rintro e V ⟨rfl,b,a⟩;have v9:=(zM (i:=9) a (fun e=>e.elim z A) y).trans y9;have v1:=(zM (i:=1) a (fun e=>e.elim B C) Z).trans y1;have D:=zd ((ud H).putSet b (a.mono (fun k _ e=>e.elim (fun e=> .inr (.inr (.inl e))) (fun e=> .inr (.inr (.inr e))))));have S:=zd ((ud F).trans (ud D).2);clear b a))
 all_goals go_wp2_with fail
 all_goals go_end0
 all_goals exact⟨rfl,(ud D).1,ud S⟩
end Go.Proofs.YtndhpgciopcncaaGreatDoor
