import Derived.Test.YtndhpgciopcncaaGreatDoorUMlz3
import Derived.Test.YtndhpgciopcncaaGreatDoorUMlz5
import Derived.Test.YtndhpgciopcncaaGreatDoorUMlz6
import Derived.Shelf.SlSortCmp.WholeK
import Derived.Shelf.SlSortCmp.NoneTotal
import Derived.Deep.RegionHeld3
import Derived.StillTactics
open Option renaming some → I
open Option renaming none → J
open Go.Value renaming int → O
open Go.IntKind renaming i64 → E
open Go renaming World → Y
open Go.RowKit renaming Below → Z
open Go renaming Value → D
open Go.RowKit.Below renaming refl → C
open Nat renaming lt_of_lt_of_le → z7
open Nat renaming le_refl → z9
open Go.IntKind (i32)
set_option linter.unusedVariables false
set_option maxRecDepth 20000
set_option maxHeartbeats 8000000
open Go.Proofs.Tryz
namespace Go.Proofs.YtndhpgciopcncaaGreatDoor
open Go.RowKit Go.Maps Go.Shelf
theorem Kt{w W:Y}{i:Ids}{c:Cf}{ep:Int}{m:MS}{q:JM}(h:zN w i c ep m q)(b:Z w.1.size w W):∀k,zY W i k->zY w i k:=by
 rintro k (e|e)
 ·exact .inl e
 ·right
  have a:fsB W i.d=fsB w i.d:=by unfold fsB;rw[b.cell (p:=⟨i.d,0,J⟩) h.dlt]
  rw[<-a];exact e
theorem Z5{w W:Y}{i:Ids}{c:Cf}{ep:Int}{m:MS}{q:JM}(h:zN w i c ep m q)(a:Z w.1.size w W):¬zY W i w.1.size:=fun e=>absurd (h.foot_lt _ (Kt h a _ e)) (Nat.lt_irrefl _)
def zbJ(w':Y)(i:Ids)(c:Cf)(ep:Int)(m:MS)(q:JM)(t:Tok)(g:Lse)(xs:List SX)(e:Ending):Prop:=
 (vw q.S (xT m.now xs)=false/\e=.returned (O E 13)/\zN w' i c ep m {jk q (xT m.now xs)with dn:=true})
 \/(vw q.S (xT m.now xs)=true/\e=.returned (O E 0)/\∃b a,Qr (m.took m.now xs) q b m.now xs/\zN w' i c ep {m.took m.now xs with TL:=a,QL:=xe m.QL t} b/\qv c {m.took m.now xs with TL:=xe m.TL g.job,QL:=xe m.QL t} a)
theorem zcn{w:Y}{i:Ids}{c:Cf}{ep:Int}{m:MS}{q:JM}(h:zN w i c ep m q)(hc:c.ok)(t:Tok)(ht:t.wf){g:Lse}(hg:zQ m.QL t=I g)(hj:g.job.wf)(x:Tsk)(hx:zQ m.TL g.job=I x)(xs:List SX)
  (f:∀W,Z w.1.size w W->Hid (Calls prog 53 #[.pointer (I ⟨i.x,0,J⟩),zgm (I x)] W fun e w'=>∃v,e=.returned v/\vu w' W.1.size v xs/\Z W.1.size W w'))
  (ar:0<=m.now/\m.now<=100000) (aO:m.TL.length<=50000)
  (au:∀x∈xs,okX x) (a4:∀x∈Zk (m.took m.now xs).L (m.took m.now xs).Gl,okX x) (aH:xs.length<=1000) (aG:m.L.length<=900000) (aF:m.Gl.length<=49000000) (N:Nat) (hN:N<=900000000000) (hd:DOk q.S N) (aI:0<=q.st/\q.st<=1099511627776)
  (am:∀p∈(m.took m.now xs).L,inR c p.1) (U:(m.took m.now xs).L.length<=2000):
  Calls prog 20 #[.pointer (I ⟨i.x,0,J⟩),.agg #[O E t.ep,O E t.num]] w fun e w'=>zbJ w' i c ep m q t g xs e/\Kx i w w':=by
 have aa:Z w.1.size w (w.alloc (.cells #[O E t.ep,O E t.num] 49)):=(C _ _).alloc (z9 _) _
 have q0:=zm w (.cells #[O E t.ep,O E t.num] 49)
 have qz:=zL w (.cells #[O E t.ep,O E t.num] 49)
 have hX:=h.later aa
 obtain⟨-,-,-,-,-,-,-,-,c8,-,ah⟩:=hX.own.cells
 have aQ:=hX.lt
 have aN:=za q0
 obtain⟨k0,k1,-⟩:=zc q0
 have aq:(⟨(qY (zQ m.QL t)).kd,(qY (zQ m.QL t)).s⟩:Jk).wf:=by rw[hg];exact hj
 have HL:∀W,Z w.1.size w W->Hid (Calls prog 51 #[.pointer (I ⟨i.b,0,J⟩),.agg #[O E t.ep,O E t.num]] W fun e w'=>e=.returned (.tuple #[zgm (I x),.bool true])/\Z W.1.size W w'):=fun W hW=>by
  have:=vj ((h.later (w':=W) hW).board) t ht aq
  rw[hg]at this
  have e1:zQ m.TL ⟨(qY (I g)).kd,(qY (I g)).s⟩=I x:=hx
  rw[e1]at this
  exact this
 have a2:=fun W (hW:Z w.1.size w W) base v hv=>jO (h.later hW) m.now (by unfold xh;omega) xs au a4 aH aG aF N hN hd aI base v hv
 generalize zgm (I x)=JV at HL f
 have a1:=zd aa
 have QZ:=zd qz
 have H:=zd h
 have Q0:=zd q0
 have HG:=zd hg
 have aL:=zd hx
 have ad:=zd ar
 clear h hX aa q0 qz aq hg hx au a4 hd
 unfold zbJ
 cases a3:vw q.S (xT m.now xs)
 ·have y:=fun W (hW:Z w.1.size w W) base v hv=>zd ((a2 W hW base v hv).mono (fun e T hh=>(⟨(jg hh.1 a3).1,(Zg hh.1).1,(jg hh.1 a3).2,hh.2⟩:e=.returned (O E 13)/\T.cell? ⟨i.x,8,J⟩=I (O E m.now)/\zN T i c ep m {jk q (xT m.now xs)with dn:=true}/\Kx i W T)))
  clear a2 am U
  go_enter func20,ntmps20
  go_wp2_with fail
  have p1:w.1.size<w.1.size+1:=by omega
  have p2:i.x<w.1.size+1:=by have:=ud QZ;omega
  generalize(w.alloc (.cells #[O E t.ep,O E t.num] 49))=X at*
  generalize hN:w.1.size+1=N at*
  have ac:Nonempty (zU N X):=zU.some _ _
  have ab:=fun(u:zU N X) b o h=>u.cell b o h
  have R:N<=X.1.size:=by rw[ud QZ];exact z9 _
  have a5:=zd R
  have M:Hid (w.1.size<=N):=by show w.1.size<=N;omega
  have HN:=zd hN
  clear R hN
  refine zv N (by kernel_rfl) (by kernel_rfl) ?_
  repeat(go_big_quiet_step (first
   |(go_at_call 51;exact Calls.later (ud a5) (ud (HL _ ((ud a1).trans (Below.mono (Subtype.property _) (ud M))))))))
  refine wpQuiet_nil ?_
  rintro⟨w1,B⟩
  clear ab ac
  dsimp only
  have j:=(ud a1).trans (B.mono (ud M))
  have z:=(ud H).later j
  obtain⟨-,-,-,-,-,-,-,-,e8,-,-⟩:=z.own.cells
  have a0:=z.lt
  have F:=f w1 j
  have G:=f w1.drew j.drew
  have K:=zd j
  clear f k0 k1 c8 ah B j HL z
  go_wp2_with fail
  go_region_held3 (fun w'=>w'.cell? ⟨i.x,8,J⟩=I (O E m.now)) (go_keep) (first
   |(go_at_call 53;(first|(with_reducible refine(ud F).mono ?_)|(with_reducible refine(ud G).mono ?_));rintro e V ⟨v,rfl,l,d⟩;have hv:Z w1.1.size w1 V:=⟨d.os,d.tape,d.output,d.size,d.block⟩;clear d;have v8:=(hv.cell (p:=⟨i.x,8,J⟩) a0).trans e8;have aJ:=z7 a0 hv.size;have n:=(ud K).trans (hv.mono (ud K).size);have a7:=y V n _ v l;have a8:=y V.drew n.drew _ v (xm l (C _ _).drew);have r:=zd n;clear hv n l y F G)
   |(go_at_call 52;(with_reducible refine(ud a7).mono ?_);rintro e T ⟨rfl,t8,P,A⟩;have HM:=zd P;have HK:=zd ((Kx.below (ud r) (ud H).dlt).trans A);clear P A)
   |(go_at_call 52;(with_reducible refine(ud a8).mono ?_);rintro e T ⟨rfl,t8,P,A⟩;have HM:=zd P;have HK:=zd ((Kx.below (ud r).drew (ud H).dlt).trans A);clear P A))
  all_goals go_wp2_with fail
  all_goals go_ret
  all_goals exact⟨.inl ⟨trivial,rfl,ud HM⟩,ud HK⟩
 ·have y:=fun W (hW:Z w.1.size w W) base v hv=>zd ((a2 W hW base v hv).mono (fun e T hh=>(⟨(kn hh.1 a3).1,(Zg hh.1).1,(kn hh.1 a3).2,hh.2⟩:e=.returned (O E 0)/\T.cell? ⟨i.x,8,J⟩=I (O E m.now)/\(∃q',Qr (m.took m.now xs) q q' m.now xs/\zN T i c ep (m.took m.now xs) q')/\Kx i W T)))
  clear a2
  go_enter func20,ntmps20
  go_wp2_with fail
  have p1:w.1.size<w.1.size+1:=by omega
  have p2:i.x<w.1.size+1:=by have:=ud QZ;omega
  generalize(w.alloc (.cells #[O E t.ep,O E t.num] 49))=X at*
  generalize hN:w.1.size+1=N at*
  have ac:Nonempty (zU N X):=zU.some _ _
  have ab:=fun(u:zU N X) b o h=>u.cell b o h
  have R:N<=X.1.size:=by rw[ud QZ];exact z9 _
  have a5:=zd R
  have M:Hid (w.1.size<=N):=by show w.1.size<=N;omega
  have HN:=zd hN
  clear R hN
  refine zv N (by kernel_rfl) (by kernel_rfl) ?_
  repeat(go_big_quiet_step (first
   |(go_at_call 51;exact Calls.later (ud a5) (ud (HL _ ((ud a1).trans (Below.mono (Subtype.property _) (ud M))))))))
  refine wpQuiet_nil ?_
  rintro⟨w1,B⟩
  clear ab ac
  dsimp only
  have j:=(ud a1).trans (B.mono (ud M))
  have z:=(ud H).later j
  obtain⟨-,-,-,-,-,-,-,-,e8,-,-⟩:=z.own.cells
  have a0:=z.lt
  have av:=(B.block _ (show w.1.size<N by have:=ud HN;omega)).trans (ud Q0)
  have ae:=zd av
  have F:=f w1 j
  have G:=f w1.drew j.drew
  have K:=zd j
  clear f k0 k1 c8 ah B j HL z av
  go_wp2_with fail
  go_region_held3 (fun w'=>w'.cell? ⟨i.x,8,J⟩=I (O E m.now)) (go_keep) (first
   |(go_at_call 53;(first|(with_reducible refine(ud F).mono ?_)|(with_reducible refine(ud G).mono ?_));rintro e V ⟨v,rfl,l,d⟩;have hv:Z w1.1.size w1 V:=⟨d.os,d.tape,d.output,d.size,d.block⟩;clear d;have v8:=(hv.cell (p:=⟨i.x,8,J⟩) a0).trans e8;have aJ:=z7 a0 hv.size;have n:=(ud K).trans (hv.mono (ud K).size);have af:=zd ((hv.block _ (za (ud ae))).trans (ud ae));have a7:=y V n _ v l;have a8:=y V.drew n.drew _ v (xm l (C _ _).drew);have r:=zd n;clear hv n l y F G)
   |(go_at_call 52;(with_reducible refine(ud a7).mono ?_);rintro e T ⟨rfl,t8,⟨q',hA,P⟩,A⟩;have a6:=zd (A.kept.heap (ud af) (Z5 (ud H) (ud r)));have HA:=zd hA;have HM:=zd P;have HK:=zd ((Kx.below (ud r) (ud H).dlt).trans A);clear P A hA)
   |(go_at_call 52;(with_reducible refine(ud a8).mono ?_);rintro e T ⟨rfl,t8,⟨q',hA,P⟩,A⟩;have a6:=zd (A.kept.heap (k:=w.1.size) (ud af) (Z5 (ud H) (ud r).drew));have HA:=zd hA;have HM:=zd P;have HK:=zd ((Kx.below (ud r).drew (ud H).dlt).trans A);clear P A hA))
  all_goals(
   have Q:zN T i c ep {m with L:=(m.took m.now xs).L,Gl:=(m.took m.now xs).Gl} q':=ud HM
   obtain⟨-,-,-,-,-,-,-,-,-,-,aM⟩:=Q.own.cells
   have aP:=Q.lt
   obtain⟨t0,t1,-⟩:=zc (ud a6)
   have aK:=za (ud a6)
   have aw:=zd (zeG ((Q.later (C _ _).drew).board) t ht (ud HG) hj)
   have az:=zd Q
   clear Q
   go_wp2_with fail
   refine xo 5 (by kernel_rfl) (by kernel_rfl) ?_
   simp only[List.take_succ_cons,List.take_zero,List.drop_succ_cons,List.drop_zero]
   repeat still_step
   refine wpStill_nil ?_
   go_wp2_with(first|(go_at_call 54;refine(ud aw).mono ?_;rintro e V2 ⟨rfl,ai,aj⟩;have aD:=zd ai;have ax:=zd aj;clear ai aj))
   have ap:zo (vv i.b i.tb i.qb) T V2:=((zo.refl (vv i.b i.tb i.qb) T).drew).trans ((ud ax).mono (fun k _ e=> .inr e)) (fun _ _ e=>e)
   obtain⟨a9,ak⟩:=(ud az).putBoard (ud aD) ap
   have aC:=zd (YA a9.own hc am U (ud ad) (by have:=Qk (L:=m.TL) (a:=g.job);show(xe m.TL g.job).length<=50000;omega))
   have aA:=zd a9
   have ay:=zd ((ud HK).trans ak)
   clear ap a9 ak
   go_wp2_with(first|(go_at_call 55;refine(ud aC).mono ?_;rintro e V3 ⟨rfl,aE,an,al,ao⟩;have ag:=zd ((ud aA).put an al (fun k e=> .inr (.inr (.inr (.inl e)))));have aB:=zd ao;clear an al ao))
   go_ret
   exact⟨.inr ⟨trivial,rfl,q',aE,ud HA,(ud ag).1,ud aB⟩,(ud ay).trans (ud ag).2⟩)
def ms0:MS:=⟨0,[],[],0,[],[]⟩
inductive VE (c:Cf) (ep:Int):MS->List Nm->ByteArray->Prop
 |start (m:MS) (ns:List Nm) (txt:ByteArray) (hf:c.fits) (hs:SOk c ep m ns.length) (ho:∀x∈Zk m.L m.Gl,okX x) (h1:ep=1->m=ms0/\ns=[]/\txt=xT 0 []++nl):VE c ep m ns txt
 |laid (m:MS) (ns:List Nm) (txt:ByteArray) (m':MS) (ns':List Nm) (xs:List SX) (h:VE c ep m ns txt) (ha:qP c ep m ns m' ns') (hx:∀x∈xs,okX x) (hL:m'.L=(yB (m.Gl,m.L) xs).2) (hG:m'.Gl=(yB (m.Gl,m.L) xs).1):VE c ep m' ns' (txt++(xT m'.now xs++nl))
 |quiet (m:MS) (ns:List Nm) (txt:ByteArray) (m':MS) (ns':List Nm) (h:VE c ep m ns txt) (ha:qP c ep m ns m' ns') (hn:m'.now=m.now) (hL:m'.L=m.L) (hG:m'.Gl=m.Gl):VE c ep m' ns' txt
 |anew (m:MS) (ns:List Nm) (txt:ByteArray) (ys:List SX) (h:VE c ep m ns txt) (hp:ys.Perm (Zk m.L m.Gl)):VE c ep m ns (xT m.now ys++nl)
theorem Za:∀(xs:List SX) (G:List (Sg×Unit)) (L:LV),(∀x∈Zk L G,okX x)->(∀x∈xs,okX x)->∀x∈Zk (yB (G,L) xs).2 (yB (G,L) xs).1,okX x
 |[],G,L,h,_=>h
 |y::xs,G,L,h,d=>by
  have f:=d y (by simp)
  have b:∀x∈Zk (ZW (G,L) y).2 (ZW (G,L) y).1,okX x:=fun x a=>by
   unfold ZW Zk at a
   split at a
   ·rcases List.mem_append.1 a with a|a
    ·exact h x (List.mem_append_left _ (xc.1 a).1)
    ·obtain⟨g,c,rfl⟩:=List.mem_map.1 a
     rcases qs c with rfl|⟨c,_⟩
     ·exact⟨f.key,by show xh 4;unfold xh;omega,by show xh 0;unfold xh;omega,by show xh 0;unfold xh;omega,by show(-2147483648:Int)<=0/\(0:Int)<=2147483647;omega,by show(-2147483648:Int)<=0/\(0:Int)<=2147483647;omega⟩
     ·exact h _ (List.mem_append_right _ (List.mem_map.2 ⟨g,c,rfl⟩))
   ·rcases List.mem_append.1 a with a|a
    ·rcases qh a with rfl|⟨a,_⟩
     ·exact f
     ·exact h x (List.mem_append_left _ a)
    ·exact h x (List.mem_append_right _ a)
  have e:yB (G,L) (y::xs)=yB ((ZW (G,L) y).1,(ZW (G,L) y).2) xs:=rfl
  rw[e]
  exact Za xs _ _ b (fun x a=>d x (by simp[a]))
section
variable {c:Cf} {ep:Int} {m:MS} {ns:List Nm} {txt:ByteArray}
theorem VE.fits(h:VE c ep m ns txt):c.fits:=by
 induction h with
 |start m ns txt g l j i=>exact g
 |laid m ns txt m' b xs h f n e d a=>exact a
 |quiet m ns txt m' b h f hn e d a=>exact a
 |anew m ns txt o h k a=>exact a
theorem VE.sok(h:VE c ep m ns txt)(f:c.ok):SOk c ep m ns.length:=by
 have d:=h.fits
 induction h with
 |start m ns txt d j l k=>exact j
 |laid m ns txt m' e xs h b o i g a=>exact b.ok f d a
 |quiet m ns txt m' e h b hn i g a=>exact b.ok f d a
 |anew m ns txt p h n a=>exact a
theorem VE.okA(h:VE c ep m ns txt):∀x∈Zk m.L m.Gl,okX x:=by
 induction h with
 |start m ns txt k n g j=>exact g
 |laid m ns txt m' e xs h f i d b a=>rw[d,b];exact Za xs _ _ a i
 |quiet m ns txt m' e h f hn d b a=>rw[d,b];exact a
 |anew m ns txt o h l a=>exact a
end
structure Xh(w:Y)(i:Ids)(c:Cf)(ep:Int)(m:MS)(q:JM)(txt:ByteArray)(ns:List Nm):Prop where
 at_:zN w i c ep m q
 up:q.dn=false
 dsk:q.S=jS ep.toNat txt
 e1:1<=ep/\ep<=1000000000
 st:0<=q.st/\q.st<=100000000000
 tx:(txt.size:Int)<=2*q.st+4096
 hist:VE c ep m ns txt
def zC(w:Y)(i:Ids)(c:Cf)(ep:Int)(m:MS):Prop:=∃q txt ns,Xh w i c ep m q txt ns
section
variable {w w':Y} {i:Ids} {c:Cf} {ep:Int} {m:MS} {q:JM} {txt:ByteArray} {ns:List Nm}
theorem zC.own(h:zC w i c ep m):xz false w i c ep m:=by
 obtain⟨q,txt,ns,h⟩:=h
 have:=h.at_.own
 rw[h.up]at this;exact this
theorem zC.head(h:zC w i c ep m):w.1[i.x]?=I (.cells #[O E c.s,O E c.le,O E c.la,O E c.wi,O E c.ke,O E c.qu,i.tv,O E ep,O E m.now,.pointer (I ⟨i.s,0,J⟩),.pointer (I ⟨i.b,0,J⟩),.pointer (I ⟨i.j,0,J⟩),.bool false] 94 (0,0)):=h.own.head
theorem zC.set(h:zC w i c ep m):xt w i.s c i.tv i.lb i.gb m.Gl m.L:=h.own.set
theorem zC.board(h:zC w i c ep m):zA w i.b c i.tv ep m.num i.tb i.qb m.TL m.QL:=h.own.board
theorem zC.lt(h:zC w i c ep m):i.x<w.1.size:=za h.head
theorem zC.dlt(h:zC w i c ep m):i.d<w.1.size:=by obtain⟨q,txt,ns,h⟩:=h;exact h.at_.dlt
theorem zC.tab(h:zC w i c ep m):ZR w:=by obtain⟨q,txt,ns,h⟩:=h;exact h.at_.tab
theorem zC.ts(h:zC w i c ep m):∃a cap,i.tv=.slice a c.n cap/\TS w a c.n c.F c.W c.K:=h.own.ts
theorem zC.cells(h:zC w i c ep m):w.cell? ⟨i.x,0,J⟩=I (O E c.s)/\w.cell? ⟨i.x,1,J⟩=I (O E c.le)/\w.cell? ⟨i.x,2,J⟩=I (O E c.la)/\w.cell? ⟨i.x,3,J⟩=I (O E c.wi)/\w.cell? ⟨i.x,4,J⟩=I (O E c.ke)/\w.cell? ⟨i.x,5,J⟩=I (O E c.qu)/\w.cell? ⟨i.x,6,J⟩=I i.tv/\w.cell? ⟨i.x,7,J⟩=I (O E ep)/\w.cell? ⟨i.x,8,J⟩=I (O E m.now)/\w.cell? ⟨i.x,9,J⟩=I (.pointer (I ⟨i.s,0,J⟩))/\w.cell? ⟨i.x,10,J⟩=I (.pointer (I ⟨i.b,0,J⟩)):=h.own.cells
theorem zC.kept{f:Nat->Prop}(h:zC w i c ep m)(a:zo f w w')(hn:∀k,zY w i k->¬f k)(b:¬f Qh):zC w' i c ep m:=by
 obtain⟨q,txt,ns,h⟩:=h
 exact⟨q,txt,ns,h.at_.kept a hn b,h.up,h.dsk,h.e1,h.st,h.tx,h.hist⟩
theorem zC.later(h:zC w i c ep m)(b:Z w.1.size w w'):zC w' i c ep m:=h.kept (f:=fun _=>False) (zo.of_below b) (fun _ _ a=>a) (fun a=>a)
theorem zC.foot_lt(h:zC w i c ep m):∀k,zY w i k->k<w.1.size:=by obtain⟨q,txt,ns,h⟩:=h;exact h.at_.foot_lt
theorem zC.tn(h:zC w i c ep m):∀k,zY w i k->k≠Qh:=by obtain⟨q,txt,ns,h⟩:=h;exact h.at_.tn
theorem zC.below(h:zC w i c ep m)(a:Z w.1.size w w'):Kx i w w':=Kx.below a h.dlt
def zhv(t:TypeId):Bool:=t==94||t==155||t==80||t==171||t==216||t==111||t==113
theorem zN.tagQ(h:zN w i c ep m q){k:Nat}{cs:Array D}{t:TypeId}{v:Nat×Nat}(o:w.1[k]?=I (.cells cs t v))(r:zhv t=false):¬zY w i k:=fun x=>by
 unfold zhv at r
 simp only[Bool.or_eq_false_iff,beq_eq_false_iff_ne]at r
 obtain⟨⟨⟨⟨⟨⟨z,t2⟩,t3⟩,t4⟩,t5⟩,A⟩,B⟩:=r
 obtain⟨fs,s⟩:=h.jrn
 have p:¬jm i k:=fun e=>by
  rcases h.otag k e with⟨l,y,n,f,g⟩|⟨G,F,u⟩
  ·have b:=jj o f
   rcases g with a|a|a|a
   ·exact z (b.trans a)
   ·exact t2 (b.trans a)
   ·exact t3 (b.trans a)
   ·exact t4 (b.trans a)
  ·rw[o]at u;cases u
 have hn:¬vO i.j i.d fs k:=fun e=>by
  obtain⟨l,y,n,f,g⟩:=s.tag k e
  have b:=jj o f
  rcases g with a|a|a
  ·exact t5 (b.trans a)
  ·exact A (b.trans a)
  ·exact B (b.trans a)
 rcases x with(e|e|e|e|e)|e
 ·exact p (.inl e)
 ·exact p (.inr (.inl e))
 ·exact p (.inr (.inr e))
 ·exact hn (.inl e)
 ·exact hn (.inr (.inl e))
 ·exact hn (.inr (.inr (s.fsB▸e)))
theorem zC.tag(h:zC w i c ep m){k:Nat}{cs:Array D}{t:TypeId}{a:Nat×Nat}(b:w.1[k]?=I (.cells cs t a))(d:zhv t=false):¬zY w i k:=by
 obtain⟨q,txt,ns,h⟩:=h
 exact h.at_.tagQ b d
theorem Xh.dok(h:Xh w i c ep m q txt ns):DOk q.S 400000000000:=by
 rw[h.dsk]
 have a:=h.tx;have b:=h.st;have d:=h.e1
 exact ziB (by omega) (by omega) (by omega)
theorem Xh.lens(h:Xh w i c ep m q txt ns)(a:c.ok):m.L.length<=400/\m.Gl.length<=2000020:=⟨(h.hist.sok a).ok.seg.len400 a,(h.hist.sok a).gl a⟩
theorem Xh.lay(h:Xh w i c ep m q txt ns)(a:ByteArray):vw q.S a=true:=by rw[h.dsk];exact(zgo _ _ _).2
theorem Xh.after(h:Xh w i c ep m q txt ns)(l:c.ok){m':MS}{a:List Nm}{now:Int}{xs:List SX}(y:qP c ep m ns m' a)(n:∀x∈xs,okX x)(hn:m'.now=now)(p:m'.L=(m.took now xs).L)(o:m'.Gl=(m.took now xs).Gl){u:JM}(v:Qr (m.took now xs) q u now xs)(s:zN w' i c ep m' u):zC w' i c ep m':=by
 subst hn
 have e:VE c ep m' a (txt++(xT m'.now xs++nl)):=.laid m ns txt m' a xs h.hist y n p o
 have k:=e.sok l
 have g:=(zgo ep.toNat txt (xT m'.now xs)).1
 have z:=h.st
 rcases v with⟨f,rfl⟩|⟨f,b,j,rfl⟩
 ·refine⟨_,_,_,s,h.up,?_,h.e1,h.st,?_,e⟩
  ·show VF q.S (xT m'.now xs)=_;rw[h.dsk,g]
  ·show((txt++(xT m'.now xs++nl)).size:Int)<=2*q.st+4096
   unfold Yq at f
   rw[h.dsk,g,zhM]at f
   have:=of_decide_eq_false f
   omega
 ·rw[<-p,<-o]at j
  obtain⟨B,_,F⟩:=zjh ep.toNat (txt++(xT m'.now xs++nl)) (xT m'.now b)
  have t:=k.ok.now
  have r:=Zc (now:=m'.now) (xs:=b) (by unfold xh;omega) (fun x n=>e.okA x (j.mem_iff.1 n))
  have G:=k.ok.seg.len400 l
  have H:=k.gl l
  have K:b.length=m'.L.length+m'.Gl.length:=by rw[j.length_eq];unfold Zk;rw[List.length_append,List.length_map]
  have A:(xT m'.now b).size<=1000000000:=by rw[Zb];omega
  have d:(zjO (jk q (xT m'.now xs)) (xT m'.now b)).st=(xT m'.now b).size+1:=by
   show JY (VF q.S (xT m'.now xs)) (xT m'.now b) q.st=_
   unfold JY
   rw[h.dsk,g,F];rfl
  refine⟨_,_,_,s,h.up,?_,h.e1,?_,?_,VE.anew m' a _ b e j⟩
  ·show zbn (VF q.S (xT m'.now xs)) (xT m'.now b)=_;rw[h.dsk,g,B]
  ·rw[d];omega
  ·rw[d,XQ];omega
theorem Xh.quiet(h:Xh w i c ep m q txt ns){m':MS}{a:List Nm}(k:qP c ep m ns m' a)(hn:m'.now=m.now)(j:m'.L=m.L)(g:m'.Gl=m.Gl)(n:xz false w' i c ep m')(l:zo (jm i) w w'):zC w' i c ep m'/\Kx i w w':=by
 have b:xz q.dn w' i c ep m':=by rw[h.up];exact n
 obtain⟨d,f⟩:=h.at_.put b l (fun _ e=>e)
 exact⟨⟨q,txt,a,d,h.up,h.dsk,h.e1,h.st,h.tx,.quiet m ns txt m' a h.hist k hn j g⟩,f⟩
end
theorem zco{w:Y}{i:Ids}{c:Cf}{ep:Int}{m:MS}(h:zC w i c ep m)(t:Tok)(b:t.wf)(a:zQ m.QL t=J):
  Calls prog 20 #[.pointer (I ⟨i.x,0,J⟩),.agg #[O E t.ep,O E t.num]] w fun e w'=>e=.returned (O E 8)/\Z w.1.size w w':=
 zas h.own t b a
theorem zgY{w:Y}{i:Ids}{c:Cf}{ep:Int}{m:MS}(h:zC w i c ep m)(t:Tok)(b:t.wf)(a:zQ m.QL t=J):
  Calls prog 21 #[.pointer (I ⟨i.x,0,J⟩),.agg #[O E t.ep,O E t.num]] w fun e w'=>e=.returned (O E 8)/\Z w.1.size w w':=
 zeP h.own t b a
theorem zcZ{w:Y}{i:Ids}{c:Cf}{ep:Int}{m:MS}(h:zC w i c ep m)(n:Int)(hn:n<1\/1000<n\/100000<m.now+n)(a:0<=m.now/\m.now<=100000):
  Calls prog 26 #[.pointer (I ⟨i.x,0,J⟩),O E n] w fun e w'=>e=.returned (O E 5)/\Z w.1.size w w':=
 zaT h.own n hn a
theorem KM{w:Y}{i:Ids}{c:Cf}{ep:Int}{m:MS}(h:zC w i c ep m)(p:c.ok)(sr tm val:Int)(b:0<=sr/\sr<4)(o:0<=tm/\tm<=m.now)(g:m.now-c.la<=tm)(a:m.now<=100000)(d: -2147483648<=val/\val<=2147483647)(q:0<=zp m.L/\zp m.L<=1000)(l:zie m.L)(j:∀k:Nat,k<c.n->zQ m.Gl (xW c sr tm k)=J)(f:c.qu<zp m.L+(1+2*yi c m.L ⟨sr,tm,val⟩ c.n)):
  Calls prog 27 #[.pointer (I ⟨i.x,0,J⟩),O E sr,O E tm,O i32 val] w fun e w'=>e=.returned (O E 4)/\Z w.1.size w w':=
 zaS h.own p sr tm val b o g a d q l j f
theorem qa{w:Y}{i:Ids}{c:Cf}{ep:Int}{m:MS}(h:zC w i c ep m)(b:c.ok)(d:0<=zp m.L/\zp m.L<=1000)(a:m.L.length<=100000):
  Calls prog 15 #[.pointer (I ⟨i.x,0,J⟩)] w fun e w'=>e=.returned (.agg #[O E m.now,O E (zp m.L),O E (xv (xa (zp m.L) c.qu)),O E ep,O E (zg m.L 1),O E (zg m.L 2),O E (zg m.L 3),O E m.Gl.length])/\Z w.1.size w w':=
 zhy h.own b d a
theorem yT{w:Y}{i:Ids}{c:Cf}{ep:Int}{m:MS}(h:zC w i c ep m)(f:c.ok)(a:0<=m.now/\m.now<=100000)(t sr wa:Int)(g: -1<=t/\t<c.n)(b:0<=sr/\sr<4)(d:0<=wa/\wa<=100000):
  Calls prog 57 #[.pointer (I ⟨i.x,0,J⟩),O E t,O E sr,O E wa] w fun e w'=>e=.returned (.tuple #[.agg #[O E (xB c m.now m.Gl m.L t sr wa).1.cnt,O E (xB c m.now m.Gl m.L t sr wa).1.sum,O i32 (xB c m.now m.Gl m.L t sr wa).1.mn,O i32 (xB c m.now m.Gl m.L t sr wa).1.mx],O E (xB c m.now m.Gl m.L t sr wa).2])/\Z w.1.size w w':=
 zhx h.own f a t sr wa g b d
theorem ziY{w:Y}{i:Ids}{c:Cf}{ep:Int}{m:MS}(h:zC w i c ep m)(a:m.TL=[]):
  Calls prog 19 #[.pointer (I ⟨i.x,0,J⟩)] w fun e w'=>e=.returned (.slice J 0 0)/\Z w.1.size w w':=
 zhw h.own a
theorem Zv{w:Y}{i:Ids}{c:Cf}{ep:Int}{m:MS}(h:zC w i c ep m)(l:c.ok)(n:Int)(hn:1<=n/\n<=1000)(g:0<=m.now/\m.now+n<=100000)(y:zgb 1000000 100000 m.TL m.QL)(A:∀p∈m.L,inR c p.1)(j:m.L.length<=2000)(o:∀a k,YV (m.now+n) m.TL m.QL a k->a.length<=50000):
  Calls prog 26 #[.pointer (I ⟨i.x,0,J⟩),O E n] w fun e w'=>e=.returned (O E 0)/\∃d b a,zC w' i c ep {m with now:=m.now+n,TL:=a,QL:=b}/\Kx i w w'/\YV (m.now+n) m.TL m.QL d b/\(∀p∈b,m.now+n<p.2.til)/\qv c {m with now:=m.now+n,TL:=d,QL:=b} a:=by
 obtain⟨q,txt,ns,f⟩:=h
 obtain⟨H,K⟩:=f.lens l
 refine(zja f.at_ l n hn g y A j o f.hist.okA (by omega) _ (by omega) f.dok ⟨f.st.1,by have:=f.st.2;omega⟩).mono ?_
 rintro e w' ⟨F,z⟩
 rcases F with⟨r,_⟩|⟨_,G,M,d,b,a,v,B,s,u,t⟩
 ·rw[f.lay]at r;cases r
 ·exact⟨G,d,b,a,f.after l (.ticked m ns n d a b hn.1 g.2 s u t) (by simp) rfl rfl rfl v B,z,s,u,t⟩
theorem JL(l:List Int):xh (kq l):=by rw[zei];unfold xh wrap64;omega
theorem JI(b:Cl->Cl->Int):∀(l:List Cl) (o:Option Cl) (z:Cl),l.foldl (kJ b) o=I z->o=I z\/z∈l
 |[],o,z,h=> .inl h
 |x::l,o,z,h=>by
  rcases JI b l _ z h with a|a
  ·unfold kJ at a
   split at a
   ·injection a with a;exact .inr (by simp[a])
   ·split at a
    ·injection a with a;exact .inr (by simp[a])
    ·injection a with a;exact .inl (by rw[a])
  ·exact .inr (by simp[a])
theorem JO{zs:List Cl}(h:∀z∈zs,(-2147483648<=z.mn/\z.mn<=2147483647)/\(-2147483648<=z.mx/\z.mx<=2147483647))(a:Cl->Cl->Int):(-2147483648<=((qA a zs).getD xY).mn/\((qA a zs).getD xY).mn<=2147483647)/\(-2147483648<=((qA a zs).getD xY).mx/\((qA a zs).getD xY).mx<=2147483647):=by
 cases c:qA a zs with
 |none=>show((-2147483648:Int)<=0/\(0:Int)<=2147483647)/\((-2147483648:Int)<=0/\(0:Int)<=2147483647);omega
 |some z=>
  rcases JI a zs J z c with b|b
  ·cases b
  ·exact h z b
theorem zdI{c:Cf}{L:LV}{sr wa:Int}{k:Nat}{z:Cl}(h:z∈zW c L sr wa k):∃p∈L,p.2.cl=z:=by
 unfold zW ql at h
 obtain⟨j,_,a⟩:=List.mem_filterMap.1 h
 cases b:yy L ⟨c.F k,sr,wa*xK c k+(j:Int)⟩with
 |none=>rw[b]at a;cases a
 |some v=>rw[b]at a;injection a with a;exact⟨_,kA b,a⟩
theorem zhC{c:Cf}{L:LV}{Gl:List (Sg×Unit)}(h:∀x∈Zk L Gl,okX x)(s:Sg)(d:s.wf)(sr wa:Int)(k:Nat):okX (s,⟨3,xi (zW c L sr wa k)⟩):=by
 have a:∀z∈zW c L sr wa k,(-2147483648<=z.mn/\z.mn<=2147483647)/\(-2147483648<=z.mx/\z.mx<=2147483647):=fun z e=>by
  obtain⟨p,b,rfl⟩:=zdI e
  have:=h p (List.mem_append_left _ b)
  exact⟨this.mn,this.mx⟩
 exact⟨d,by show xh 3;unfold xh;omega,JL _,JL _,(JO a XR).1,(JO a XS).2⟩
theorem KN(s:Sg)(a:s.wf)(st:Int)(b:0<=st/\st<=9):okX (s,⟨st,xY⟩):=
 ⟨a,by show xh st;unfold xh;omega,by show xh 0;unfold xh;omega,by show xh 0;unfold xh;omega,by show(-2147483648:Int)<=0/\(0:Int)<=2147483647;omega,by show(-2147483648:Int)<=0/\(0:Int)<=2147483647;omega⟩
theorem zde{c:Cf}{ep:Int}{m:MS}(d:c.ok)(q:MOk c ep m)(g:∀x∈Zk m.L m.Gl,okX x){sr tm val:Int}(b:0<=sr/\sr<4)(h:0<=tm/\tm<=100000)(a: -2147483648<=val/\val<=2147483647):(∀x∈yZ c m.Gl m.L ⟨sr,tm,val⟩,okX x)/\(yZ c m.Gl m.L ⟨sr,tm,val⟩).length<=1000:=by
 have u:=d.n1
 have w:=d.n4
 have hin:=fun(t:Int) (i: -1<=t) (p:t<c.n)=>zdz d (x:=⟨sr,tm,val⟩) b h i p
 refine⟨fun x f=>?_,?_⟩
 ·rcases List.mem_cons.1 f with rfl|f
  ·have l:=(hin (-1) (by omega) (by omega)).1
   unfold zgp
   cases k:yy m.L (xk c ⟨sr,tm,val⟩)with
   |none=>exact⟨l,by show xh 1;unfold xh;omega,by show xh 1;unfold xh;omega,by show xh val;unfold xh;omega,a,a⟩
   |some v=>
    obtain⟨_,A,B,F,G⟩:=MOk.rawAt q.seg d k
    have o:=g _ (List.mem_append_left _ (kA k))
    have y:=o.mn;have z:=o.mx
    dsimp only at y z
    refine⟨l,by show xh 1;unfold xh;omega,by show xh (1+v.cl.cnt);unfold xh;omega,by show xh (val+v.cl.sum);unfold xh;omega,?_,?_⟩
    ·show-2147483648<=(if v.cl.mn<val then v.cl.mn else val)/\(if v.cl.mn<val then v.cl.mn else val)<=2147483647
     split<;>omega
    ·show-2147483648<=(if val<v.cl.mx then v.cl.mx else val)/\(if val<v.cl.mx then v.cl.mx else val)<=2147483647
     split<;>omega
  ·unfold XO at f
   obtain⟨s,e,rfl⟩:=List.mem_map.1 f
   have e:=(List.mem_filter.1 e).1
   unfold qi at e
   obtain⟨j,r,rfl⟩:=List.mem_map.1 e
   exact KN _ (hin (j:Int) (by omega) (by have:=List.mem_range.1 r;omega)).1 2 (by omega)
 ·have i:(XO c m.Gl m.L ⟨sr,tm,val⟩ c.n).length<=c.n:=by
   unfold XO
   rw[List.length_map]
   refine Nat.le_trans (List.length_filter_le _ _) ?_
   unfold qi;simp
  show(zgp c m.L ⟨sr,tm,val⟩::XO c m.Gl m.L ⟨sr,tm,val⟩ c.n).length<=1000
  rw[List.length_cons];omega
theorem J4{w:Y}{i:Ids}{c:Cf}{ep:Int}{m:MS}(h:zC w i c ep m)(j:c.ok)(sr tm val:Int)(a:0<=sr/\sr<4)(f:0<=tm/\tm<=m.now)(o:m.now-c.la<=tm)(s:m.now<=100000)(b: -2147483648<=val/\val<=2147483647)(U:0<=zp m.L/\zp m.L<=1000)(u:zie m.L)(r:∀k:Nat,k<c.n->zQ m.Gl (xW c sr tm k)=J)(l:zp m.L+(1+2*yi c m.L ⟨sr,tm,val⟩ c.n)<=c.qu)(B:m.L.length<=1000000)(F:∀p∈m.L,p.1.t= -1->p.2.cl.small):
  Calls prog 27 #[.pointer (I ⟨i.x,0,J⟩),O E sr,O E tm,O i32 val] w fun e w'=>e=.returned (O E 0)/\zC w' i c ep {m with L:=kL c m.L ⟨sr,tm,val⟩}/\Kx i w w':=by
 obtain⟨q,txt,ns,d⟩:=h
 obtain⟨S,T⟩:=d.lens j
 have P:=d.hist.sok j
 obtain⟨g,G⟩:=zde j P.ok d.hist.okA a ⟨f.1,by omega⟩ b
 have A:=zbh (c:=c) (Gl:=m.Gl) (L:=m.L) (x:=⟨sr,tm,val⟩) u r
 refine(zjN d.at_ j sr tm val a f o s b U u r l F g (Za _ _ _ d.hist.okA g) G (by omega) (by omega) _ (by omega) d.dok ⟨d.st.1,by have:=d.st.2;omega⟩).mono ?_
 rintro e w' ⟨Q,K⟩
 obtain⟨R,V,H,N⟩:=kn Q (d.lay _)
 have z:m.took m.now (yZ c m.Gl m.L ⟨sr,tm,val⟩)={m with L:=kL c m.L ⟨sr,tm,val⟩}:=by unfold MS.took;rw[A]
 have M:({m with L:=kL c m.L ⟨sr,tm,val⟩}:MS).L=(m.took m.now (yZ c m.Gl m.L ⟨sr,tm,val⟩)).L:=by rw[z]
 have v:({m with L:=kL c m.L ⟨sr,tm,val⟩}:MS).Gl=(m.took m.now (yZ c m.Gl m.L ⟨sr,tm,val⟩)).Gl:=by rw[z]
 have y:zN w' i c ep {m with L:=kL c m.L ⟨sr,tm,val⟩} V:=by rw[<-z];exact N
 exact⟨R,d.after j (.added m ns ⟨sr,tm,val⟩ a f o b l) g rfl M v H y,K⟩
theorem zeQ{w:Y}{i:Ids}{c:Cf}{ep:Int}{m:MS}(h:zC w i c ep m)(t:Tok)(s:t.wf){g:Lse}(j:zQ m.QL t=I g)(p:g.job.wf){x:Tsk}(k:zQ m.TL g.job=I x)(a:0<=m.now/\m.now<=100000)(f:0<=x.ti/\x.ti<=1000000)(d:m.TL.length<=50000):
  Calls prog 21 #[.pointer (I ⟨i.x,0,J⟩),.agg #[O E t.ep,O E t.num]] w fun e w'=>e=.returned (O E 0)/\zC w' i c ep {m with TL:=qq m.TL g.job (x.failed m.now),QL:=xe m.QL t}/\Kx i w w':=by
 obtain⟨q,txt,ns,b⟩:=h
 have r:xz false w i c ep m:=by have:=b.at_.own;rw[b.up]at this;exact this
 refine(zcx r t s j p k a f d).mono ?_
 rintro e w' ⟨o,n,l⟩
 exact⟨o,b.quiet (.failed m ns t g x j k) rfl rfl rfl n l⟩
theorem XP{w:Y}{i:Ids}{c:Cf}{ep:Int}{m:MS}(h:zC w i c ep m)(o:c.ok)(slot:Int)(n:0<=slot/\slot<c.s)(f:0<=m.now/\m.now<=100000)(A:∀p∈m.TL,Xi c m.now p.2)(l:m.QL.length<=100000)(g:0<=m.num/\m.num<=1000000000000000)(k:xh ep)(G:∀q∈m.QL,q.1.num<=m.num)(H:0<=zp m.L/\zp m.L<=1000):
  Calls prog 18 #[.pointer (I ⟨i.x,0,J⟩),O E slot] w fun e w'=>(e=.returned (.tuple #[zdc,O E 6])/\Z w.1.size w w'/\m.QL.any (fun p=>p.2.slot==slot)=true)\/(e=.returned (.tuple #[zdc,O E 7])/\Z w.1.size w w'/\∀p∈m.TL,yJ m.QL m.now p.2=false)\/∃p,p∈m.TL/\yJ m.QL m.now p.2=true/\e=.returned (.tuple #[.agg #[O E p.2.kd,O E p.2.s.t,O E p.2.s.sr,O E p.2.s.wa,O E p.2.se,O E p.2.ti,O E p.2.rest,O E ep,O E (m.num+1),O E slot,O E (m.now+c.le)],O E 0])/\zC w' i c ep {m with num:=m.num+1,QL:=qq m.QL ⟨ep,m.num+1⟩ ⟨p.2.kd,p.2.s,slot,m.now+c.le⟩}/\Kx i w w':=by
 obtain⟨q,txt,ns,j⟩:=h
 have z:=j.hist.sok o
 have B:xz false w i c ep m:=by have:=j.at_.own;rw[j.up]at this;exact this
 refine(ziZ B o slot n f A (fun p F=>(z.ok.td p F).key) l g k H).mono ?_
 rintro e w' (⟨a,b,d⟩|⟨a,b,d,r⟩|⟨a,_⟩|⟨p,a,b,d,r,_,u,v,y⟩)
 ·exact .inl ⟨a,b,d⟩
 ·exact .inr (.inl ⟨a,b,d⟩)
 ·cases a
 ·exact .inr (.inr ⟨p,b,d,u,j.quiet (.taken m ns p slot b d) rfl rfl rfl v y⟩)
theorem jH{w:Y}{i:Ids}{c:Cf}{ep:Int}{m:MS}(h:zC w i c ep m)(n:c.ok)(t:Tok)(ht:t.wf){g:Lse}(F:zQ m.QL t=I g)(V:g.job.wf)(s:Sg)(se ti rest:Int)(M:zQ m.TL g.job=I ⟨true,s,se,ti,rest⟩)(K:inR c s)(k:Nat)(G:s.t=k)(H:m.L.length<=1000)(U:m.Gl.length<=1000000000)
  (o:∀p∈qT m.L s ⟨3,xi (zW c m.L s.sr s.wa k)⟩,inR c p.1) (d:(qT m.L s ⟨3,xi (zW c m.L s.sr s.wa k)⟩).length<=2000) (l:0<=m.now/\m.now<=100000) (z:m.TL.length<=50000):
  Calls prog 20 #[.pointer (I ⟨i.x,0,J⟩),.agg #[O E t.ep,O E t.num]] w fun e w'=>e=.returned (O E 0)/\∃a,zC w' i c ep {m with L:=qT m.L s ⟨3,xi (zW c m.L s.sr s.wa k)⟩,Gl:=m.Gl,TL:=a,QL:=xe m.QL t}/\Kx i w w'/\qv c {m with L:=qT m.L s ⟨3,xi (zW c m.L s.sr s.wa k)⟩,Gl:=m.Gl,TL:=xe m.TL g.job,QL:=xe m.QL t} a:=by
 obtain⟨q,txt,ns,b⟩:=h
 obtain⟨X,a0⟩:=b.lens n
 have j:∀y∈([(s,⟨3,xi (zW c m.L s.sr s.wa k)⟩)]:List SX),okX y:=fun y N=>by
  rw[List.mem_singleton]at N;subst N;exact zhC b.hist.okA s K.1 _ _ _
 have u:m.took m.now [(s,⟨3,xi (zW c m.L s.sr s.wa k)⟩)]={m with L:=qT m.L s ⟨3,xi (zW c m.L s.sr s.wa k)⟩,Gl:=m.Gl}:=by unfold MS.took yB;simp only[List.foldl_cons,List.foldl_nil];unfold ZW;rfl
 have f:(m.took m.now [(s,⟨3,xi (zW c m.L s.sr s.wa k)⟩)]).L=qT m.L s ⟨3,xi (zW c m.L s.sr s.wa k)⟩:=by rw[u]
 have v:(m.took m.now [(s,⟨3,xi (zW c m.L s.sr s.wa k)⟩)]).Gl=m.Gl:=by rw[u]
 refine(zcn b.at_ n t ht F V _ M [(s,⟨3,xi (zW c m.L s.sr s.wa k)⟩)] (fun W S=>zd (zcs (b.at_.later S).own n s K k G)) l z j (Za _ _ _ b.hist.okA j) (by simp) (by omega) (by omega) _ (by omega) b.dok ⟨b.st.1,by have:=b.st.2;omega⟩ (by rw[f];exact o) (by rw[f];exact d)).mono ?_
 rintro e w' ⟨R,Q⟩
 rcases R with⟨A,_⟩|⟨_,T,q',a,P,B,r⟩
 ·rw[b.lay]at A;cases A
 ·rw[u]at B r
  exact⟨T,a,b.after n (.rolled m ns t g s se ti rest k a F M G r) j rfl f.symm v.symm P B,Q,r⟩
theorem kG{w:Y}{i:Ids}{c:Cf}{ep:Int}{m:MS}(h:zC w i c ep m)(o:c.ok)(t:Tok)(X:t.wf){g:Lse}(B:zQ m.QL t=I g)(S:g.job.wf)(s:Sg)(se ti rest:Int)(G:zQ m.TL g.job=I ⟨false,s,se,ti,rest⟩)(V:inR c s)(F:m.L.length<=1000)(R:m.Gl.length<=1000000000)
  (l:∀p∈xe m.L s,inR c p.1) (d:(xe m.L s).length<=2000) (k:0<=m.now/\m.now<=100000) (v:m.TL.length<=50000):
  Calls prog 20 #[.pointer (I ⟨i.x,0,J⟩),.agg #[O E t.ep,O E t.num]] w fun e w'=>e=.returned (O E 0)/\∃a,zC w' i c ep {m with L:=xe m.L s,Gl:=qq m.Gl s (),TL:=a,QL:=xe m.QL t}/\Kx i w w'/\qv c {m with L:=xe m.L s,Gl:=qq m.Gl s (),TL:=xe m.TL g.job,QL:=xe m.QL t} a:=by
 obtain⟨q,txt,ns,b⟩:=h
 obtain⟨T,U⟩:=b.lens o
 have j:∀y∈([(s,⟨4,xY⟩)]:List SX),okX y:=fun y H=>by
  rw[List.mem_singleton]at H;subst H;exact KN s V.1 4 (by omega)
 have r:m.took m.now [(s,⟨4,xY⟩)]={m with L:=xe m.L s,Gl:=qq m.Gl s ()}:=by unfold MS.took yB;simp only[List.foldl_cons,List.foldl_nil];unfold ZW;rfl
 have f:(m.took m.now [(s,⟨4,xY⟩)]).L=xe m.L s:=by rw[r]
 have u:(m.took m.now [(s,⟨4,xY⟩)]).Gl=qq m.Gl s ():=by rw[r]
 refine(zcn b.at_ o t X B S _ G [(s,⟨4,xY⟩)] (fun W P=>zd (zcr (b.at_.later P).own s)) k v j (Za _ _ _ b.hist.okA j) (by simp) (by omega) (by omega) _ (by omega) b.dok ⟨b.st.1,by have:=b.st.2;omega⟩ (by rw[f];exact l) (by rw[f];exact d)).mono ?_
 rintro e w' ⟨N,M⟩
 rcases N with⟨z,_⟩|⟨_,Q,q',a,K,A,n⟩
 ·rw[b.lay]at z;cases z
 ·rw[r]at A n
  exact⟨Q,a,b.after o (.reclaimed m ns t g s se ti rest a B G n) j rfl f.symm u.symm K A,M,n⟩
theorem QS{w:Y}{base size n:Nat}{e:TypeId}{v:D}{xs:List D}(h:w.ownsRow base e size v n xs):w.ownsRow 0 e size v n xs:=kj h (Nat.zero_le _)
theorem zfl{U:Y}{c:Cf}{ep:Int}{m d a l h g j p:Nat}{tv fs:D}{S:DS}(v:xt U m c tv d a [] [])(t:zA U l c tv ep 0 h g [] [])(n:JAt U j p 0 S fs)(q:ZR U)(r:d≠h)(a2:d≠g)(a3:a≠h)(a4:a≠g)(hn:∀k,(vp m tv d a k\/vv l h g k\/vO j p fs k)->k≠Qh):
  zN (U.alloc (.cells #[O E c.s,O E c.le,O E c.la,O E c.wi,O E c.ke,O E c.qu,tv,O E ep,O E 0,.pointer (I ⟨m,0,J⟩),.pointer (I ⟨l,0,J⟩),.pointer (I ⟨j,0,J⟩),.bool false] 94)) ⟨U.1.size,m,d,a,l,h,g,tv,j,p⟩ c ep ms0 ⟨0,S,false⟩:=by
 have b:∀o,Z U.1.size U (U.alloc o):=fun o=>(C _ _).alloc (z9 _) _
 have i:=fun o=>(⟨(((b o).block _ (za n.head)).trans n.head),n.disk.later (b o)⟩:JAt (U.alloc o) j p 0 S fs)
 refine⟨zm _ _,v.kept (zo.of_below (f:=fun _=>False) (b _)) (fun _ _ e=>e),t.later (b _),⟨fs,i _⟩,jC q (b _),r,a2,a3,a4,fun k u=>?_⟩
 rcases u with(e|e|e|e|e)|e
 ·have x:=q.lt
  have w:k=U.1.size:=e
  omega
 ·exact hn k (.inl e)
 ·exact hn k (.inr (.inl e))
 ·exact hn k (.inr (.inr (.inl e)))
 ·exact hn k (.inr (.inr (.inr (.inl e))))
 ·exact hn k (.inr (.inr (.inr (.inr ((i _).fsB.symm.trans e)))))
def Ju(c:Cf)(T:ByteArray)(m':MS)(A:Ids->Y->Prop):Prop:=∀(W:Y) (i:Ids) (ep:Int) (q:JM) (b:Nat),zN W i c ep ms0 q->W.1[b]?=I (.cells #[.string T] 9 (0,0))->¬zY W i b->A i W->Calls prog 71 #[.pointer (I ⟨i.x,0,J⟩),.func (.func 202) #[] #[.pointer (I ⟨b,0,J⟩)]] W fun e w'=>e=.returned (.tuple #[])/\zN w' i c ep m' q/\Kx i W w'
theorem zgt{S:DS}{N:Nat}(h:DOk S N):DOk (Qg S) (N+5):=by
 have b:YW.size=1:=rfl
 have a:=kM h yd YW
 rw[b]at a
 unfold Qg
 split
 ·exact yH a (by omega)
 ·exact yH (ZZ a _) (by omega)
def zju(c:Cf)(p:Nat)(S:DS)(fs:D)(m':MS)(w:Y)(e:Ending)(w':Y):Prop:=
 ∃(i:Ids) (b:List SX) (a:List (Jk×Tsk)),i.d=p/\e=.returned (.tuple #[.pointer (I ⟨i.x,0,J⟩),O E 0])/\b.Perm (Zk m'.L m'.Gl)/\zN w' i c (zcc S) {m' with TL:=a} ⟨JY (Qg S) (xT m'.now b) 0,zbn (Qg S) (xT m'.now b),false⟩/\qv c m' a/\zo (foot p fs) w w'/\(∀k,zY w' i k->foot p fs k\/w.1.size<=k)
theorem zje(c:Cf)(hc:c.ok)(hr:xU c.s c.le c.la c.wi c.ke c.qu c.n c.F c.W c.K=true)(a:Option Addr)(cap p:Nat)(S:DS)(fs:D)(w:Y)(hd:zbG w p S fs)(N:Nat)(hN:N<=900000000000)(bn:DOk S N)(bd:VK S=true)(aB:∀w',zo (foot p fs) w w'->TS w' a c.n c.F c.W c.K)(ap:ZR w)(br:∀k,foot p fs k->k≠Qh)
  (m':MS) (A:Ids->Y->Prop) (aD:∀i W,zo (foot p fs) w W->(∀k,zY W i k->foot p fs k\/w.1.size<=k)->A i W) (aT:Ju c ((yC (Qg S) yc).extract 0 (zge (yC (Qg S) yc))) m' A) (bm:0<=m'.now/\m'.now<=100000) (an:∀x∈Zk m'.L m'.Gl,okX x) (bP:m'.L.length<=2000) (bY:m'.Gl.length<=49000000) (hL:∀p∈m'.L,inR c p.1) (bR:m'.TL.length<=50000) (bo:∀ys,ys.Perm (Zk m'.L m'.Gl)->Qp (Qg S) (xT m'.now ys)=true):
  Calls prog 29 #[.agg #[O E c.s,O E c.le,O E c.la,O E c.wi,O E c.ke,O E c.qu,.slice a c.n cap],.pointer (I ⟨p,0,J⟩)] w (zju c p S fs m' w):=by
 have am:=zgt bn
 have az:Z w.1.size w (w.alloc (.cells #[O E c.s,O E c.le,O E c.la,O E c.wi,O E c.ke,O E c.qu,.slice a c.n cap] 27)):=(C _ _).alloc (z9 _) _
 have bv:=zd (zm w (.cells #[O E c.s,O E c.le,O E c.la,O E c.wi,O E c.ke,O E c.qu,.slice a c.n cap] 27))
 have HR:=zd (Yu c.s c.le c.la c.wi c.ke c.qu a c.n cap c.F c.W c.K _ (aB _ (zo.of_below az)))
 rw[hr,show zgd true=0 from rfl]at HR
 have aE:=zd az
 have HD:=zd hd
 have bB:=zd aB
 have ai:=zd ap
 have aW:=zd br
 have ah:=zd aT
 have af:=zd aD
 have aS:=zd an
 have bw:=zd hL
 have aV:=zd bo
 have ag:=zd am
 have bZ:=hd.lt
 clear hd aB az ap br aT aD an hL bo am
 go_enter func29,ntmps29
 go_wp2_with fail
 refine(ud HR).mono ?_
 rintro e w1 ⟨rfl,aA⟩
 have a5:=(ud aE).trans (aA.mono (ud aE).size)
 have aP:=zd ((aA.block w.1.size (by rw[zL];omega)).trans (ud bv))
 have ar:=zd (zcd ((ud HD).later a5) N (by omega) bn)
 rw[bd]at ar
 have aY:=zd a5
 clear aA a5 HR
 go_wp2_with fail
 refine(ud ar).mono ?_
 rintro e w2 ⟨rfl,ax,be,ae,bf⟩
 have c2:=(ud aY).size
 have bK:¬foot p fs w.1.size:=by
  rintro(h|h)
  ·omega
  ·have:=zjd (ud HD).row _ h;omega
 have al:=ae.heap (ud aP) bK
 have a7:zo (foot p fs) w w2:=(zo.of_below (ud aY)).trans ae (fun _ _ h=>h)
 obtain⟨z0,z1,z2,z3,z4,z5,z6,-⟩:=zc al
 have aQ:=zd (zfj c hc a cap w2 (ud bB _ a7))
 have c3:=ae.size
 have a0:=zd a7
 have aK:=zd be
 have aL:=zd bf
 clear be ae bf a7 al aP ar
 go_wp2_with fail
 refine(ud aQ).mono ?_
 rintro e d ⟨g,b,rfl,a8,bb⟩
 have aR:=zd a8
 have aq:=zd bb
 clear a8 bb z0 z1 z2 z3 z4 z5 z6 aQ
 go_wp2_with fail
 have bc:=(ud aq).alloc (ud aq).size (.cells #[O E c.s,O E c.le,O E c.la,O E c.wi,O E c.ke,O E c.qu,.slice (I ⟨g,0,J⟩) c.n b] 89)
 have bk:=zm d (.cells #[O E c.s,O E c.le,O E c.la,O E c.wi,O E c.ke,O E c.qu,.slice (I ⟨g,0,J⟩) c.n b] 89)
 have bs:=zL d (.cells #[O E c.s,O E c.le,O E c.la,O E c.wi,O E c.ke,O E c.qu,.slice (I ⟨g,0,J⟩) c.n b] 89)
 have au:=zd ((ud aR).alloc (.cells #[O E c.s,O E c.le,O E c.la,O E c.wi,O E c.ke,O E c.qu,.slice (I ⟨g,0,J⟩) c.n b] 89))
 generalize(d.alloc (.cells #[O E c.s,O E c.le,O E c.la,O E c.wi,O E c.ke,O E c.qu,.slice (I ⟨g,0,J⟩) c.n b] 89))=X at*
 obtain⟨x0,x1,x2,x3,x4,x5,x6,-⟩:=zc bk
 have v:d.1.size<X.1.size:=by omega
 have HS:=fun W=>zd (zfL c (I ⟨g,0,J⟩) b W)
 have HJ:=fun W=>zd (zeA c (I ⟨g,0,J⟩) b (zcc S) W)
 have aN:=fun W=>zd (zaJ p W)
 have a9:=zd bc
 have bC:=zd bs
 clear bc bk bs
 go_region_held3 (fun w'=>w'.cell? ⟨d.1.size,0,J⟩=I (O E c.s)/\w'.cell? ⟨d.1.size,1,J⟩=I (O E c.le)/\w'.cell? ⟨d.1.size,2,J⟩=I (O E c.la)/\w'.cell? ⟨d.1.size,3,J⟩=I (O E c.wi)/\w'.cell? ⟨d.1.size,4,J⟩=I (O E c.ke)/\w'.cell? ⟨d.1.size,5,J⟩=I (O E c.qu)/\w'.cell? ⟨d.1.size,6,J⟩=I (.slice (I ⟨g,0,J⟩) c.n b)) (go_keep) (first
  |(go_at_call 68;(with_reducible refine(ud (HS _)).mono ?_);rintro e V ⟨s1,q,r,rfl,G,b2,b3,b4,v1,v2,v3,v4⟩;have m:Z X.1.size X V:=⟨v4.os,v4.tape,v4.output,v4.size,v4.block⟩;have aG:Hid (X.1.size<=s1/\X.1.size<=q/\X.1.size<=r):=⟨G,b2,b3⟩;have B4:=zd b4;have V1:=zd v1;have V2:=zd v2;have V3:=zd v3;clear v1 v2 v3 v4 G b2 b3 b4;have y0:V.cell? ⟨d.1.size,0,J⟩=I (O E c.s):=(m.cell (p:=⟨d.1.size,0,J⟩) v).trans x0;have y1:V.cell? ⟨d.1.size,1,J⟩=I (O E c.le):=(m.cell (p:=⟨d.1.size,1,J⟩) v).trans x1;have y2:V.cell? ⟨d.1.size,2,J⟩=I (O E c.la):=(m.cell (p:=⟨d.1.size,2,J⟩) v).trans x2;have y3:V.cell? ⟨d.1.size,3,J⟩=I (O E c.wi):=(m.cell (p:=⟨d.1.size,3,J⟩) v).trans x3;have y4:V.cell? ⟨d.1.size,4,J⟩=I (O E c.ke):=(m.cell (p:=⟨d.1.size,4,J⟩) v).trans x4;have y5:V.cell? ⟨d.1.size,5,J⟩=I (O E c.qu):=(m.cell (p:=⟨d.1.size,5,J⟩) v).trans x5;have y6:V.cell? ⟨d.1.size,6,J⟩=I (.slice (I ⟨g,0,J⟩) c.n b):=(m.cell (p:=⟨d.1.size,6,J⟩) v).trans x6;have u:d.1.size<V.1.size:=z7 v m.size;have aJ:=zd m;clear m HS)
  |(go_at_call 69;(with_reducible refine(ud (HJ _)).mono ?_);rintro e U ⟨G,z,y,rfl,d1,d2,d3,u1,u4⟩;have l:Z V.1.size V U:=⟨u4.os,u4.tape,u4.output,u4.size,u4.block⟩;have aF:Hid (V.1.size<=G/\V.1.size<=z/\V.1.size<=y):=⟨d1,d2,d3⟩;have U1:=zd u1;clear u1 u4 d1 d2 d3;have z0:U.cell? ⟨d.1.size,0,J⟩=I (O E c.s):=(l.cell (p:=⟨d.1.size,0,J⟩) u).trans y0;have z1:U.cell? ⟨d.1.size,1,J⟩=I (O E c.le):=(l.cell (p:=⟨d.1.size,1,J⟩) u).trans y1;have z2:U.cell? ⟨d.1.size,2,J⟩=I (O E c.la):=(l.cell (p:=⟨d.1.size,2,J⟩) u).trans y2;have z3:U.cell? ⟨d.1.size,3,J⟩=I (O E c.wi):=(l.cell (p:=⟨d.1.size,3,J⟩) u).trans y3;have z4:U.cell? ⟨d.1.size,4,J⟩=I (O E c.ke):=(l.cell (p:=⟨d.1.size,4,J⟩) u).trans y4;have z5:U.cell? ⟨d.1.size,5,J⟩=I (O E c.qu):=(l.cell (p:=⟨d.1.size,5,J⟩) u).trans y5;have z6:U.cell? ⟨d.1.size,6,J⟩=I (.slice (I ⟨g,0,J⟩) c.n b):=(l.cell (p:=⟨d.1.size,6,J⟩) u).trans y6;have t:d.1.size<U.1.size:=z7 u l.size;have aI:=zd l;clear l HJ)
  |(go_at_call 70;(with_reducible refine(ud (aN _)).mono ?_);rintro e T ⟨Q,rfl,d1,t1,t4⟩;have j:Z U.1.size U T:=⟨t4.os,t4.tape,t4.output,t4.size,t4.block⟩;have aM:Hid (U.1.size<=Q):=d1;have T1:=zd t1;clear t1 t4 d1;have t0:T.cell? ⟨d.1.size,0,J⟩=I (O E c.s):=(j.cell (p:=⟨d.1.size,0,J⟩) t).trans z0;have t1:T.cell? ⟨d.1.size,1,J⟩=I (O E c.le):=(j.cell (p:=⟨d.1.size,1,J⟩) t).trans z1;have t2:T.cell? ⟨d.1.size,2,J⟩=I (O E c.la):=(j.cell (p:=⟨d.1.size,2,J⟩) t).trans z2;have t3:T.cell? ⟨d.1.size,3,J⟩=I (O E c.wi):=(j.cell (p:=⟨d.1.size,3,J⟩) t).trans z3;have t4:T.cell? ⟨d.1.size,4,J⟩=I (O E c.ke):=(j.cell (p:=⟨d.1.size,4,J⟩) t).trans z4;have t5:T.cell? ⟨d.1.size,5,J⟩=I (O E c.qu):=(j.cell (p:=⟨d.1.size,5,J⟩) t).trans z5;have t6:T.cell? ⟨d.1.size,6,J⟩=I (.slice (I ⟨g,0,J⟩) c.n b):=(j.cell (p:=⟨d.1.size,6,J⟩) t).trans z6;have bQ:d.1.size<T.1.size:=z7 t j.size;have aH:=zd j;clear j aN))
 go_wp2_with fail
 have m:=ud aJ
 have l:=ud aI
 have j:=ud aH
 have a4:=(ud a9).trans (m.mono (ud a9).size)
 have a3:=a4.trans (l.mono a4.size)
 have B:=a3.trans (j.mono a3.size)
 have a2:=l.trans (j.mono l.size)
 have bI:=m.size
 have bH:=l.size
 have bG:=j.size
 have bE:=(ud a9).size
 obtain⟨s0,s9,s8⟩:=ud aG
 obtain⟨j0,j9,j8⟩:=ud aF
 have bU:=ud aM
 have bp:=za (ud V1)
 have bj:q<V.1.size:=(ud V2).lt
 have bL:=(ud V3).lt
 have bJ:=(ud U1).foot_lt
 obtain⟨P,bV,bh,bM,bO⟩:=(ud au).form (by have:=hc.n1;omega)
 have bN:P=g:=by injection bh with h1 _ _;injection h1 with h1;injection h1 with h1;exact h1.symm
 subst bN
 have ao:xt T s1 c (.slice (I ⟨P,0,J⟩) c.n b) q r [] []:=⟨((a2.block _ bp).trans (ud V1)),xm (xm (QS (ud au)) m) a2,(ud V2).later a2,(ud V3).later a2,ud B4⟩
 have a6:JAt T Q p 0 (Qg S) ax:=⟨ud T1,(ud aK).later B⟩
 have bq:ZR T:=jC ((ud ai).kept (ud a0) (fun e=>ud aW _ e rfl)) B
 have bW:=(ud ai).lt
 have o:∀k,(vp s1 (.slice (I ⟨P,0,J⟩) c.n b) q r k\/vv G z y k\/vO Q p ax k)->foot p fs k\/w.1.size<=k:=fun k hk=>by
  rcases hk with(e|e|e|e)|(e|e|e)|e|e|e
  ·right;have:k=s1:=e;omega
  ·right
   have e':(Value.slice (I ⟨P,0,J⟩) c.n b).ownBlock=I k:=e
   simp[Value.ownBlock]at e';subst e';omega
  ·right;have:k=q:=e;omega
  ·right;have:k=r:=e;omega
  ·right;have:k=G:=e;omega
  ·right;have:k=z:=e;omega
  ·right;have:k=y:=e;omega
  ·right;have:k=Q:=e;omega
  ·exact .inl (.inl e)
  ·rcases ud aL k e with h|h
   ·exact .inl (.inr h)
   ·right;omega
 have ad:=zfl ao ((ud U1).later j) a6 bq (show q≠z by omega) (show q≠y by omega) (show r≠z by omega) (show r≠y by omega) (fun k hk=>by
  rcases o k hk with h|h
  ·exact ud aW k h
  ·omega)
 have ak:=B.alloc B.size (.cells #[O E c.s,O E c.le,O E c.la,O E c.wi,O E c.ke,O E c.qu,.slice (I ⟨P,0,J⟩) c.n b,O E (zcc S),O E 0,.pointer (I ⟨s1,0,J⟩),.pointer (I ⟨G,0,J⟩),.pointer (I ⟨Q,0,J⟩),.bool false] 94)
 have aj:Z T.1.size T (T.alloc (.cells #[O E c.s,O E c.le,O E c.la,O E c.wi,O E c.ke,O E c.qu,.slice (I ⟨P,0,J⟩) c.n b,O E (zcc S),O E 0,.pointer (I ⟨s1,0,J⟩),.pointer (I ⟨G,0,J⟩),.pointer (I ⟨Q,0,J⟩),.bool false] 94)):=(C _ _).alloc (z9 _) _
 have bF:=zL T (.cells #[O E c.s,O E c.le,O E c.la,O E c.wi,O E c.ke,O E c.qu,.slice (I ⟨P,0,J⟩) c.n b,O E (zcc S),O E 0,.pointer (I ⟨s1,0,J⟩),.pointer (I ⟨G,0,J⟩),.pointer (I ⟨Q,0,J⟩),.bool false] 94)
 generalize T.alloc (.cells #[O E c.s,O E c.le,O E c.la,O E c.wi,O E c.ke,O E c.qu,.slice (I ⟨P,0,J⟩) c.n b,O E (zcc S),O E 0,.pointer (I ⟨s1,0,J⟩),.pointer (I ⟨G,0,J⟩),.pointer (I ⟨Q,0,J⟩),.bool false] 94)=M at*
 obtain⟨bX,bi⟩:=ad.jrn
 have aU:=zd (Jf bi.disk (N+5) (by omega) (ud ag))
 have bg:∀k,zY M ⟨T.1.size,s1,q,r,G,z,y,.slice (I ⟨P,0,J⟩) c.n b,Q,p⟩ k->foot p fs k\/w.1.size<=k:=fun k hk=>by
  rcases hk with(e|e|e|e|e)|e
  ·right;have:k=T.1.size:=e;omega
  ·exact o k (.inl e)
  ·exact o k (.inr (.inl e))
  ·exact o k (.inr (.inr (.inl e)))
  ·exact o k (.inr (.inr (.inr (.inl e))))
  ·have e2:fsB M p=ax.ownBlock:=by
    have hx:=(a6.disk.later aj).c0
    unfold fsB;rw[hx];rfl
   exact o k (.inr (.inr (.inr (.inr (e2.symm.trans e)))))
 have aC:zo (foot p fs) w M:=(ud a0).trans (zo.of_below (f:=foot p fs) ak) (fun _ _ h=>h)
 have aZ:=zd aC
 have aa:=zd bg
 have ab:=zd ad
 have c1:=ad.lt
 have c4:w.1.size<=M.1.size:=aC.size
 clear ad aC bg bi o ao a6 bq aj bF ak B a3 a4 a2 m l j bJ bh bM bO bp bj bL s0 s9 s8 j0 j9 j8 bU bI bH bG bE v u t bQ aJ aI aH a9 bC au aR aq aK aL a0 V1 V2 V3 U1 T1 aG aF aM B4 x0 x1 x2 x3 x4 x5 x6 y0 y1 y2 y3 y4 y5 y6 z0 z1 z2 z3 z4 z5 z6 t0 t1 t2 t3 t4 t5 t6
 refine(ud aU).mono ?_
 rintro e R ⟨rfl,hR⟩
 have H:Z M.1.size M R:=by rw[hR];exact(C _ _).alloc (z9 _) _
 have bl:R.1[M.1.size]?=I (.cells #[.string ((yC (Qg S) yc).extract 0 (zge (yC (Qg S) yc)))] 9 (0,0)):=by rw[hR];exact zm _ _
 have a1:=zd (ud ah R ⟨T.1.size,s1,q,r,G,z,y,.slice (I ⟨P,0,J⟩) c.n b,Q,p⟩ (zcc S) ⟨0,Qg S,false⟩ M.1.size ((ud ab).later H) bl (Z5 (ud ab) H) (ud af _ R ((ud aZ).trans (zo.of_below (f:=foot p fs) H) (fun _ _ h=>h)) (fun k hk=>ud aa k (Kt (ud ab) H k hk))))
 dsimp only at a1
 have aO:=zd (Kx.below (i:=⟨T.1.size,s1,q,r,G,z,y,.slice (I ⟨P,0,J⟩) c.n b,Q,p⟩) H (ud ab).dlt)
 clear hR H bl aU ah af
 go_wp2_with fail
 refine(ud a1).mono ?_
 rintro e R2 ⟨rfl,ay,b0⟩
 have aw:=zd (QJ ay (by unfold xh;omega) (ud aS) (by omega) (by omega) (N+5) (by omega) (ud ag))
 dsimp only at aw
 have bt:=zd ((ud aO).trans b0)
 have bS:=ay.lt
 dsimp only at bS
 clear ay b0 aO a1
 go_wp2_with fail
 refine(ud aw).mono ?_
 rintro e R3 ⟨ys,hp,rfl,ac,b5⟩
 rw[ud aV ys hp]
 have av:=zd (YA ac.own hc (ud bw) bP bm bR)
 dsimp only at av
 have bA:=zd hp
 have bx:=zd ac
 have bu:=zd ((ud bt).trans b5)
 have bT:=ac.lt
 dsimp only at bT
 clear hp ac b5 aw
 go_wp2_with fail
 refine(ud av).mono ?_
 rintro e R4 ⟨rfl,bD,b8,b6,b9⟩
 have ba:=(ud bx).put b8 b6 (fun k e=> .inr (.inr (.inr (.inl e))))
 have aX:=zd ba
 have bz:=zd b9
 clear ba b8 b6 b9 av
 go_wp2_with fail
 refine bodyPost_ret (results_tmp2 rfl _ _ _) rfl ?_
 have b7:=(ud bu).trans (ud aX).2
 refine⟨⟨T.1.size,s1,q,r,G,z,y,.slice (I ⟨P,0,J⟩) c.n b,Q,p⟩,ys,bD,rfl,rfl,ud bA,(ud aX).1,ud bz,(ud aZ).trans b7.kept (fun k hk e=>?_),fun k hk=>?_⟩
 ·rcases ud aa k e with h|h
  ·exact h
  ·omega
 ·rcases hk with e|e
  ·exact ud aa k (.inl e)
  ·rcases b7.fs k e with h|h
   ·exact ud aa k (.inr h)
   ·right;omega
def zbI(t:Tok):List D:=[O E t.ep,O E t.num]
structure Shp where
 p:Nat
 i:Ids
 d:Nat
 ct:D
 nv:D
 kv:D
 uv:D
def vT(s:Shp)(k:Nat):Prop:=k=s.p\/s.ct.ownBlock=I k\/s.nv.ownBlock=I k\/s.kv.ownBlock=I k\/s.uv.ownBlock=I k
structure zI(w:Y)(B:Nat)(s:Shp)(c:Cf)(ep:Int)(m:MS)(sn:Int)(ns:List Nm)(ks:List Tok)(us:List Int):Prop where
 head:w.1[s.p]?=I (.cells #[.pointer (I ⟨s.i.x,0,J⟩),.pointer (I ⟨s.d,0,J⟩),O E c.s,O E c.le,O E c.la,O E c.wi,O E c.ke,O E c.qu,s.ct,O E sn,s.nv,s.kv,s.uv] 44 (0,0))
 mill:zC w s.i c ep m
 crow:w.ownsRow B 80 3 s.ct c.n (jn c.n c.F c.W c.K)
 nrow:w.ownsRow B 87 3 s.nv ns.length (ns.flatMap nmV)
 krow:w.ownsRow B 49 2 s.kv ks.length (ks.flatMap zbI)
 urow:w.ownsRow B 3 1 s.uv us.length (us.map (O E))
 lo:B<=s.p
 mlo:∀j,zY w s.i j->B<=j
 sep:∀j,vT s j->¬zY w s.i j
 dd:s.d=s.i.d
 tb:Qh<B
theorem qF{f:Nat->Prop}{w w':Y}{i:Ids}(g:zo f w w')(c:¬f i.d)(h:i.d<w.1.size):∀j,zY w' i j->zY w i j:=by
 rintro j (e|e)
 ·exact .inl e
 ·right
  have a:=g.block _ h c
  have b:fsB w' i.d=fsB w i.d:=by unfold fsB World.cell?;simp only[a]
  rw[<-b];exact e
section
variable {w:Y} {B:Nat} {s:Shp} {c:Cf} {ep:Int} {m:MS} {sn:Int} {ns:List Nm} {ks:List Tok} {us:List Int}
theorem zI.lt(h:zI w B s c ep m sn ns ks us):s.p<w.1.size:=za h.head
theorem zI.foot_lt(h:zI w B s c ep m sn ns ks us):∀j,vT s j->j<w.1.size:=fun j d=>by
 rcases d with rfl|e|e|e|e
 ·exact h.lt
 ·obtain⟨a,b⟩:=zG h.crow e;exact za b
 ·obtain⟨a,b⟩:=zG h.nrow e;exact za b
 ·obtain⟨a,b⟩:=zG h.krow e;exact za b
 ·obtain⟨a,b⟩:=zG h.urow e;exact za b
theorem zI.foot_lo(h:zI w B s c ep m sn ns ks us):∀j,vT s j->B<=j:=fun j a=>by
 rcases a with rfl|e|e|e|e
 ·exact h.lo
 ·exact(h.crow.lt j e).1
 ·exact(h.nrow.lt j e).1
 ·exact(h.krow.lt j e).1
 ·exact(h.urow.lt j e).1
theorem zI.kept{f:Nat->Prop}{w':Y}(h:zI w B s c ep m sn ns ks us)(a:zo f w w')(b:∀j,vT s j->¬f j)(g:∀j,zY w s.i j->¬f j)(l:¬f Qh):zI w' B s c ep m sn ns ks us:=
 have k:=qF (i:=s.i) a (g _ (.inl (.inr (.inr (.inr (.inr rfl)))))) h.mill.dlt
 ⟨a.heap h.head (b _ (.inl rfl)),h.mill.kept a g l,zk h.crow a (fun j e=>b j (.inr (.inl e))),zk h.nrow a (fun j e=>b j (.inr (.inr (.inl e)))),zk h.krow a (fun j e=>b j (.inr (.inr (.inr (.inl e))))),zk h.urow a (fun j e=>b j (.inr (.inr (.inr (.inr e))))),h.lo,fun j d=>h.mlo j (k j d),fun j d n=>h.sep j d (k j n),h.dd,h.tb⟩
theorem zI.later{w':Y}(h:zI w B s c ep m sn ns ks us)(a:Z w.1.size w w'):zI w' B s c ep m sn ns ks us:=h.kept (f:=fun _=>False) (zo.of_below a) (fun _ _ e=>e) (fun _ _ e=>e) (fun e=>e)
theorem zI.putMill{w':Y}{m':MS}(h:zI w B s c ep m sn ns ks us)(d:zC w' s.i c ep m')(g:Kx s.i w w'):zI w' B s c ep m' sn ns ks us:=
 have b:=g.kept
 have f:∀j,zY w' s.i j->zY w s.i j\/w.1.size<=j:=fun j a=>by
  rcases a with e|e
  ·exact .inl (.inl e)
  ·rcases g.fs j e with e|e
   ·exact .inl (.inr e)
   ·exact .inr e
 ⟨b.heap h.head (h.sep _ (.inl rfl)),d,zk h.crow b (fun j e=>h.sep j (.inr (.inl e))),zk h.nrow b (fun j e=>h.sep j (.inr (.inr (.inl e)))),zk h.krow b (fun j e=>h.sep j (.inr (.inr (.inr (.inl e))))),zk h.urow b (fun j e=>h.sep j (.inr (.inr (.inr (.inr e))))),h.lo,fun j a=>by
  rcases f j a with e|e
  ·exact h.mlo j e
  ·have k:=h.lo;have l:=h.lt;omega,fun j a d=>by
  rcases f j d with e|e
  ·exact h.sep j a e
  ·have:=h.foot_lt j a;omega,h.dd,h.tb⟩
theorem zI.cells(h:zI w B s c ep m sn ns ks us):w.cell? ⟨s.p,0,J⟩=I (.pointer (I ⟨s.i.x,0,J⟩))/\w.cell? ⟨s.p,2,J⟩=I (O E c.s)/\w.cell? ⟨s.p,3,J⟩=I (O E c.le)/\w.cell? ⟨s.p,4,J⟩=I (O E c.la)/\w.cell? ⟨s.p,7,J⟩=I (O E c.qu)/\w.cell? ⟨s.p,8,J⟩=I s.ct/\w.cell? ⟨s.p,9,J⟩=I (O E sn)/\w.cell? ⟨s.p,10,J⟩=I s.nv/\w.cell? ⟨s.p,11,J⟩=I s.kv/\w.cell? ⟨s.p,12,J⟩=I s.uv:=by
 refine⟨?_,?_,?_,?_,?_,?_,?_,?_,?_,?_⟩<;>rw[xD h.head]<;>rfl
theorem zI.dne(h:zI w B s c ep m sn ns ks us):¬s.i.d=s.p:=fun e=>h.sep s.p (.inl rfl) (.inl (.inr (.inr (.inr (.inr e.symm)))))
theorem zI.dnr(h:zI w B s c ep m sn ns ks us){v:D}(hv:∀j,v.ownBlock=I j->vT s j):¬v.ownBlock=I s.i.d:=fun e=>h.sep _ (hv _ e) (.inl (.inr (.inr (.inr (.inr rfl)))))
theorem zI.tnr(h:zI w B s c ep m sn ns ks us){v:D}(hv:∀j,v.ownBlock=I j->vT s j):¬v.ownBlock=I Qh:=fun e=>by have a:=h.foot_lo _ (hv _ e);have b:=h.tb;omega
theorem zI.tnp(h:zI w B s c ep m sn ns ks us):¬Qh=s.p:=fun e=>by have a:=h.tb;have b:=h.lo;omega
theorem zI.keptP{w':Y}(h:zI w B s c ep m sn ns ks us)(a:zo (fun k=>k=s.p) w w'):zC w' s.i c ep m/\w'.ownsRow B 80 3 s.ct c.n (jn c.n c.F c.W c.K)/\w'.ownsRow B 87 3 s.nv ns.length (ns.flatMap nmV)/\w'.ownsRow B 49 2 s.kv ks.length (ks.flatMap zbI)/\w'.ownsRow B 3 1 s.uv us.length (us.map (O E)):=
 ⟨h.mill.kept a (fun j b e=>h.sep s.p (.inl rfl) (e▸b)) (fun e=>by have f:=h.tb;have g:=h.lo;have d:Qh=s.p:=e;omega),zk h.crow a (zu h.head h.crow (by decide)),zk h.nrow a (zu h.head h.nrow (by decide)),zk h.krow a (zu h.head h.krow (by decide)),zk h.urow a (zu h.head h.urow (by decide))⟩
theorem zI.setNow(h:zI w B s c ep m sn ns ks us)(n:Int):zI (w.setCell ⟨s.p,9,J⟩ (O E n)) B s c ep m n ns ks us:=by
 have b:=qF (i:=s.i) (zi (i:=9) (v:=O E n) (zo.refl (fun k=>k=s.p) w) rfl) h.dne h.mill.dlt
 obtain⟨d,a2,a3,a4,a5⟩:=h.keptP (zi (i:=9) (v:=O E n) (zo.refl (fun k=>k=s.p) w) rfl)
 exact⟨xy (i:=9) h.head (O E n),d,a2,a3,a4,a5,h.lo,fun j a=>h.mlo j (b j a),fun j a e=>h.sep j a (b j e),h.dd,h.tb⟩
theorem zI.sepNew(h:zI w B s c ep m sn ns ks us){z v:D}(hv:∀j,v.ownBlock=I j->vT s j)(d:∀j,z.ownBlock=I j->v.ownBlock=I j\/w.1.size<=j):∀j,z.ownBlock=I j->¬zY w s.i j:=fun j b a=>by
 rcases d j b with e|e
 ·exact h.sep j (hv j e) a
 ·have:=h.mill.foot_lt j a;omega
theorem zI.setNums{o:Y}{z:D}{x:Nm}(h:zI w B s c ep m sn ns ks us)(g:zo (fun k=>s.nv.ownBlock=I k) w o)(b:o.ownsRow B 87 3 z (ns++[x]).length ((ns++[x]).flatMap nmV))(t:∀j,z.ownBlock=I j->s.nv.ownBlock=I j\/w.1.size<=j):
  zI (o.setCell ⟨s.p,10,J⟩ z) B {s with nv:=z} c ep m sn (ns++[x]) ks us:=by
 have a:=g.heap h.head (fun e=>zu h.head h.nrow (by decide) s.p e rfl)
 have l:zo (fun k=>k=s.p) o (o.setCell ⟨s.p,10,J⟩ z):=zi (zo.refl _ _) rfl
 have q:=zk h.crow g (xr h.crow h.nrow (by decide))
 have a2:=zk h.krow g (xr h.krow h.nrow (by decide))
 have a3:=zk h.urow g (xr h.urow h.nrow (by decide))
 have hv:∀j,s.nv.ownBlock=I j->vT s j:=fun j e=> .inr (.inr (.inl e))
 have a4:=h.mill.kept g (fun j f e=>h.sep j (.inr (.inr (.inl e))) f) (h.tnr hv)
 have d:=qF (i:=s.i) g (h.dnr hv) h.mill.dlt
 have n:=qF (i:=s.i) l h.dne a4.dlt
 refine⟨xy (i:=10) a z,a4.kept l (fun j f e=>h.sep s.p (.inl rfl) (e▸(d j f))) h.tnp,zk q l (zu a q (by decide)),zk b l (zu a b (by decide)),zk a2 l (zu a a2 (by decide)),zk a3 l (zu a a3 (by decide)),h.lo,fun j f=>h.mlo j (d j (n j f)),fun j f r=>(?_:¬zY w s.i j) (d j (n j r)),h.dd,h.tb⟩
 rcases f with e|e|e|e|e
 ·exact h.sep j (.inl e)
 ·exact h.sep j (.inr (.inl e))
 ·exact h.sepNew (v:=s.nv) (fun j e=> .inr (.inr (.inl e))) t j e
 ·exact h.sep j (.inr (.inr (.inr (.inl e))))
 ·exact h.sep j (.inr (.inr (.inr (.inr e))))
theorem zI.setToks{o:Y}{z:D}{x:Tok}(h:zI w B s c ep m sn ns ks us)(g:zo (fun k=>s.kv.ownBlock=I k) w o)(b:o.ownsRow B 49 2 z (ks++[x]).length ((ks++[x]).flatMap zbI))(t:∀j,z.ownBlock=I j->s.kv.ownBlock=I j\/w.1.size<=j):
  zI (o.setCell ⟨s.p,11,J⟩ z) B {s with kv:=z} c ep m sn ns (ks++[x]) us:=by
 have a:=g.heap h.head (fun e=>zu h.head h.krow (by decide) s.p e rfl)
 have l:zo (fun k=>k=s.p) o (o.setCell ⟨s.p,11,J⟩ z):=zi (zo.refl _ _) rfl
 have q:=zk h.crow g (xr h.crow h.krow (by decide))
 have a2:=zk h.nrow g (xr h.nrow h.krow (by decide))
 have a3:=zk h.urow g (xr h.urow h.krow (by decide))
 have hv:∀j,s.kv.ownBlock=I j->vT s j:=fun j e=> .inr (.inr (.inr (.inl e)))
 have a4:=h.mill.kept g (fun j f e=>h.sep j (.inr (.inr (.inr (.inl e)))) f) (h.tnr hv)
 have d:=qF (i:=s.i) g (h.dnr hv) h.mill.dlt
 have n:=qF (i:=s.i) l h.dne a4.dlt
 refine⟨xy (i:=11) a z,a4.kept l (fun j f e=>h.sep s.p (.inl rfl) (e▸(d j f))) h.tnp,zk q l (zu a q (by decide)),zk a2 l (zu a a2 (by decide)),zk b l (zu a b (by decide)),zk a3 l (zu a a3 (by decide)),h.lo,fun j f=>h.mlo j (d j (n j f)),fun j f r=>(?_:¬zY w s.i j) (d j (n j r)),h.dd,h.tb⟩
 rcases f with e|e|e|e|e
 ·exact h.sep j (.inl e)
 ·exact h.sep j (.inr (.inl e))
 ·exact h.sep j (.inr (.inr (.inl e)))
 ·exact h.sepNew (v:=s.kv) (fun j e=> .inr (.inr (.inr (.inl e)))) t j e
 ·exact h.sep j (.inr (.inr (.inr (.inr e))))
theorem zI.setUnts{o:Y}{z:D}{x:Int}(h:zI w B s c ep m sn ns ks us)(g:zo (fun k=>s.uv.ownBlock=I k) w o)(b:o.ownsRow B 3 1 z (us++[x]).length ((us++[x]).map (O E)))(t:∀j,z.ownBlock=I j->s.uv.ownBlock=I j\/w.1.size<=j):
  zI (o.setCell ⟨s.p,12,J⟩ z) B {s with uv:=z} c ep m sn ns ks (us++[x]):=by
 have a:=g.heap h.head (fun e=>zu h.head h.urow (by decide) s.p e rfl)
 have l:zo (fun k=>k=s.p) o (o.setCell ⟨s.p,12,J⟩ z):=zi (zo.refl _ _) rfl
 have q:=zk h.crow g (xr h.crow h.urow (by decide))
 have a2:=zk h.nrow g (xr h.nrow h.urow (by decide))
 have a3:=zk h.krow g (xr h.krow h.urow (by decide))
 have hv:∀j,s.uv.ownBlock=I j->vT s j:=fun j e=> .inr (.inr (.inr (.inr e)))
 have a4:=h.mill.kept g (fun j f e=>h.sep j (.inr (.inr (.inr (.inr e)))) f) (h.tnr hv)
 have d:=qF (i:=s.i) g (h.dnr hv) h.mill.dlt
 have n:=qF (i:=s.i) l h.dne a4.dlt
 refine⟨xy (i:=12) a z,a4.kept l (fun j f e=>h.sep s.p (.inl rfl) (e▸(d j f))) h.tnp,zk q l (zu a q (by decide)),zk a2 l (zu a a2 (by decide)),zk a3 l (zu a a3 (by decide)),zk b l (zu a b (by decide)),h.lo,fun j f=>h.mlo j (d j (n j f)),fun j f r=>(?_:¬zY w s.i j) (d j (n j r)),h.dd,h.tb⟩
 rcases f with e|e|e|e|e
 ·exact h.sep j (.inl e)
 ·exact h.sep j (.inr (.inl e))
 ·exact h.sep j (.inr (.inr (.inl e)))
 ·exact h.sep j (.inr (.inr (.inr (.inl e))))
 ·exact h.sepNew (v:=s.uv) (fun j e=> .inr (.inr (.inr (.inr e)))) t j e
theorem zI.setUnt{g cap:Nat}(h:zI w B s c ep m sn ns ks us)(d:s.uv=.slice (I ⟨g,0,J⟩) us.length cap)(j:Nat)(x:Int):zI (w.setCell ⟨g,j,J⟩ (O E x)) B s c ep m sn ns ks (us.set j x):=by
 have q:=h.urow
 rw[d]at q
 have o:=(q.stored j (O E x)).1
 rw[<-d]at o
 have f:s.uv.ownBlock=I g:=by rw[d];rfl
 have a:zo (fun k=>s.uv.ownBlock=I k) w (w.setCell ⟨g,j,J⟩ (O E x)):=zi (zo.refl _ _) f
 have l:=a.heap h.head (fun e=>zu h.head h.urow (by decide) s.p e rfl)
 have hv:∀j,s.uv.ownBlock=I j->vT s j:=fun j e=> .inr (.inr (.inr (.inr e)))
 have n:=qF (i:=s.i) a (h.dnr hv) h.mill.dlt
 exact⟨l,h.mill.kept a (fun j b e=>h.sep j (.inr (.inr (.inr (.inr e)))) b) (h.tnr hv),zk h.crow a (xr h.crow h.urow (by decide)),zk h.nrow a (xr h.nrow h.urow (by decide)),zk h.krow a (xr h.krow h.urow (by decide)),by simpa[List.map_set]using o,h.lo,fun j b=>h.mlo j (n j b),fun j b r=>h.sep j b (n j r),h.dd,h.tb⟩
theorem vs{v:D}(a:w.ownsRow B 3 1 v us.length (us.map (O E))){j:Nat}(b:j<us.length):∃g cap,v=.slice (I ⟨g,0,J⟩) us.length cap/\g<w.1.size/\w.cell? ⟨g,j,J⟩=I (O E us[j])/\w.frozen? ⟨g,j,J⟩=false:=by
 obtain⟨g,cap,hv,_,c⟩:=a.form (by omega)
 subst hv
 refine⟨g,cap,rfl,c,?_,a.frozenAt j⟩
 rw[a.cellAt j (by omega)]
 simp[b]
theorem yb{v:D}(c:w.ownsRow B 49 2 v ks.length (ks.flatMap zbI)){j:Nat}(b:j<ks.length):∃g cap,v=.slice (I ⟨g,0,J⟩) ks.length cap/\g<w.1.size/\w.cell? ⟨g,j*2,J⟩=I (O E ks[j].ep)/\w.cell? ⟨g,j*2+1,J⟩=I (O E ks[j].num):=by
 obtain⟨g,cap,hv,_,e⟩:=c.form (by omega)
 subst hv
 have d:∀(l:List Tok) (j:Nat) (b:j<l.length),(l.flatMap zbI)[j*2]?=I (O E l[j].ep)/\(l.flatMap zbI)[j*2+1]?=I (O E l[j].num):=fun l=>by
  induction l with
  |nil=>intro j b;simp at b
  |cons a l f=>
   intro j b
   cases j with
   |zero=>simp[zbI]
   |succ j=>
    have:=f j (by simpa using b)
    rw[show(j+1)*2=j*2+1+1 by omega]
    simpa[zbI]using this
 refine⟨g,cap,rfl,e,?_,?_⟩
 ·rw[c.cellAt _ (by omega)];exact(d ks j b).1
 ·rw[c.cellAt _ (by omega)];exact(d ks j b).2
end
def vF(w:Y)(B p:Nat)(c:Cf)(ep:Int)(m:MS)(ns:List Nm)(j:Nat):Prop:=
 ∃(s:Shp) (k:Nat),s.p=p/\zI w B s c ep m m.now ns (vB ep k) (qt ep m.QL k)/\m.num=k/\SOk c ep m ns.length/\k<=j/\ns.length<=j
theorem vF.later{w w':Y}{B p:Nat}{c:Cf}{ep:Int}{m:MS}{ns:List Nm}{j:Nat}(h:vF w B p c ep m ns j)(e:Z w.1.size w w'):vF w' B p c ep m ns j:=by
 obtain⟨s,k,a,b,d⟩:=h
 exact⟨s,k,a,b.later e,d⟩
theorem vF.mono{w:Y}{B p:Nat}{c:Cf}{ep:Int}{m:MS}{ns:List Nm}{j a:Nat}(h:vF w B p c ep m ns j)(l:j<=a):vF w B p c ep m ns a:=by
 obtain⟨s,k,b,d,e,f,g,i⟩:=h
 exact⟨s,k,b,d,e,f,by omega,by omega⟩
theorem SOk.tsk{c:Cf}{ep:Int}{m:MS}{nn:Nat}(h:SOk c ep m nn):∀p∈m.TL,Xi c m.now p.2:=fun p d=>by
 have b:=h.ok.td p d
 have a:=h.ok.mem_inR b.mem
 exact⟨a.2.1,a.2.2.1,a.2.2.2,b.se⟩
theorem SOk.qn{c:Cf}{ep:Int}{m:MS}{nn:Nat}(h:SOk c ep m nn):∀q∈m.QL,q.1.num<=m.num:=fun q a=>(h.ok.leas q a).num.2
theorem SOk.epoch{c:Cf}{ep:Int}{m:MS}{nn:Nat}(h:SOk c ep m nn){t:Tok}(i:t∉vB ep m.num.toNat):zQ m.QL t=J:=by
 rw[xR]
 intro f
 obtain⟨q,b,rfl⟩:=List.mem_map.1 (show t∈m.QL.map (·.1)from f)
 have a:=(h.ok.leas q b).ep
 have d:=(h.ok.leas q b).num
 refine i (List.mem_map.2 ⟨(q.1.num-1).toNat,by simp;omega,?_⟩)
 obtain⟨⟨e,n⟩,g⟩:=q
 dsimp only at a d ⊢
 rw[a]
 congr 1
 omega
def Wt(L:LV)(s:Sg):Prop:=∃v,(s,v)∈L/\v.st=2
def Pub(L:LV)(s:Sg):Prop:=∃v,(s,v)∈L/\v.st=3
structure zgx(c:Cf)(now:Int)(L:LV)(ns:List Nm)(rl:Bool)(s:Sg):Prop where
 roll:rl=true->∀k:Nat,s.t=k->∀x∈ns,zB c s.t x=s->¬Wt L (zB c (c.F k) x)
 recl:rl=false->(s.wa+1)*c.wt s.t+c.keep s.t<=now/\∀x∈ns,zB c s.t x=s->∀k:Nat,k<c.n->c.F k=s.t->¬Wt L (zB c k x)
structure vy(c:Cf)(m:MS)(ns:List Nm):Prop where
 tm:∀x∈ns,0<=x.tm/\x.tm<=m.now/\0<=x.sr/\x.sr<4/\ -2147483648<=x.val/\x.val<=2147483647
 keys:∀x∈ns,∀t:Int,-1<=t->t<c.n->zB c t x∈zr m.L\/zB c t x∈zy m.Gl
 has:∀s∈zr m.L,∃x∈ns,zB c s.t x=s
 gone:∀x∈ns,∀k:Nat,k<c.n->zB c (c.F k) x∈zy m.Gl->zB c k x∈zy m.Gl\/Pub m.L (zB c k x)
 over:∀s∈zy m.Gl,(s.wa+1)*c.wt s.t+c.keep s.t<=m.now
 cell:∀p∈m.L,p.2.st≠2->IsC (fun x=>zB c p.1.t x=p.1) ns p.2.cl
 td:∀p∈m.TL,zgx c m.now m.L ns p.2.rl p.2.s
section
variable {c:Cf} {ep:Int} {m:MS} {ns:List Nm}
theorem J3{L:LV}(hn:(zr L).Nodup){s:Sg}{u v:SV}(h:(s,u)∈L)(k:(s,v)∈L):u=v:=by
 have b:zQ L s=I u:=qB hn h
 have a:zQ L s=I v:=qB hn k
 rw[b]at a;injection a
theorem ZJ{L:LV}{p:Sg×SV}(h:p∈L):p.1∈zr L:=List.mem_map.2 ⟨p,h,rfl⟩
theorem zah{L:LV}(hn:(zr L).Nodup){s:Sg}(h:Wt L s):s∈zr L/\(stL L s).st=2:=by
 obtain⟨v,hv,b⟩:=h
 have a:=ZJ hv
 have:=xu a
 rw[J3 hn this hv]
 exact⟨a,b⟩
theorem yv(c:Cf)(k:Nat):c.wt (k:Int)=c.W k:=by
 unfold Cf.wt zT
 rw[if_neg (by omega)];simp
theorem zgr(e:c.ok)(a:c.fits){x:Nm}(i:0<=x.tm){k:Nat}(b:k<c.n):x.tm/c.wt (c.F k)*c.wt (c.F k)/c.W k=x.tm/c.W k:=by
 obtain⟨q,g,f⟩:=a.quot k b
 have d:=a.down k b
 have h:=(e.wt d.1 (by omega)).1
 rw[f,Int.mul_comm (x.tm/c.wt (c.F k)),Int.mul_ediv_mul_of_pos _ _ (by omega),Int.ediv_ediv_of_nonneg (by omega)]
theorem JJ(b:c.ok)(d:c.fits){x:Nm}(e:0<=x.tm){k:Nat}(a:k<c.n):zB c k x∈kS c (zB c (c.F k) x):=by
 unfold kS Y7
 rw[List.map_map]
 refine List.mem_map.2 ⟨k,List.mem_filter.2 ⟨by simpa using a,by simp[zB]⟩,?_⟩
 show(⟨(k:Int),x.sr,x.tm/c.wt (c.F k)*c.wt (c.F k)/c.W k⟩:Sg)=zB c k x
 rw[zgr b d e a]
 unfold zB;rw[yv]
theorem Yx(d:c.ok)(f:MOk c ep m){x:Nm}(e:m.now-c.la<=x.tm){t:Int}(a: -1<=t)(b:t<c.n):zB c t x∉zy m.Gl:=fun h=>Ze d a b e (f.seg.goc _ h)
theorem KO(e:c.ok)(g:MOk c ep m){x:Nm}(f:m.now-c.la<=x.tm){t:Int}(a: -1<=t)(b:t<c.n):¬Pub m.L (zB c t x):=fun⟨v,hv,d⟩=>Ze e a b f (g.seg.pubc _ hv d)
theorem Ve{now:Int}:∀(a:List Sg) {T:List (Jk×Tsk)} {p:Jk×Tsk},p∈a.foldl (yr now) T->p∈T\/∃s∈a,p.2.rl=true/\p.2.s=s
 |[],T,p,h=> .inl h
 |y::a,T,p,h=>by
  rcases Ve a h with h|⟨s,b,h⟩
  ·unfold yr at h
   split at h
   ·exact .inl h
   ·rcases qs h with rfl|⟨h,_⟩
    ·exact .inr ⟨y,by simp,rfl,rfl⟩
    ·exact .inl h
  ·exact .inr ⟨s,by simp[b],h⟩
theorem Vc{now:Int}:∀(a:List Sg) {T:List (Jk×Tsk)} {p:Jk×Tsk},p∈a.foldl (yL now) T->p∈T\/∃s∈a,p.2.rl=false/\p.2.s=s
 |[],T,p,h=> .inl h
 |y::a,T,p,h=>by
  rcases Vc a h with h|⟨s,b,h⟩
  ·unfold yL at h
   split at h
   ·exact .inl h
   ·rcases qs h with rfl|⟨h,_⟩
    ·exact .inr ⟨y,by simp,rfl,rfl⟩
    ·exact .inl h
  ·exact .inr ⟨s,by simp[b],h⟩
theorem vy.post(q:c.ok)(F:c.fits)(a:ym c m.now m.L m.Gl)(h:vy c m ns){i:List (Jk×Tsk)}(b:qv c m i):vy c {m with TL:=i} ns:=by
 obtain⟨K,A,B,S,N,P,rfl⟩:=b.to
 refine⟨h.tm,h.keys,h.has,h.gone,h.over,h.cell,fun p b=>?_⟩
 rcases Vc B b with b|⟨s,u,j,l⟩
 ·rcases Ve A b with b|⟨s,u,j,l⟩
  ·exact h.td p b
  ·rw[j,l]
   refine⟨fun _ k r x w g v=>?_,fun e=>by cases e⟩
   obtain⟨f,d⟩:=(N s).1 u
   obtain⟨G,z⟩:=zah a.nl v
   have t:k<c.n:=by
    have:=(a.inr _ (xu f)).2.2.1
    simp only at this
    omega
   have hin:s∈zy K:=(S s).2 ⟨_,G,z,by
    have:=JJ q F (h.tm x w).1 t
    rw[<-r,g]at this
    exact this⟩
   unfold vx at d
   simp only[Bool.and_eq_true,Option.isNone_iff_eq_none]at d
   exact xR.1 d.1.1 hin
 ·rw[j,l]
  refine⟨fun e=>(by cases e),fun _=>?_⟩
  obtain⟨f,d⟩:=(P s).1 u
  have hin:=a.inr _ (xu f)
  unfold vm at d
  simp only[Bool.and_eq_true,Bool.not_eq_true',beq_eq_false_iff_ne,ne_eq,decide_eq_true_eq]at d
  obtain⟨⟨W,V⟩,H⟩:=d
  refine⟨V,fun x w g k r o v=>?_⟩
  obtain⟨G,z⟩:=zah a.nl v
  have R:zB c k x∈kS c s:=by
   have:=JJ q F (h.tm x w).1 r
   rw[o,g]at this
   exact this
  unfold ZI at H
  have Q:((kr c s).filter (fun x=>(stL m.L x.1).st==2)).length=0:=by
   have:=of_decide_eq_true (show decide ((((kr c s).filter (fun x=>(stL m.L x.1).st==2)).length:Int)=0)=true from by simpa using H)
   omega
  have T:=(vN q hin (zB c k x)).2 R
  obtain⟨y,U,M⟩:=List.mem_map.1 T
  have:y∈(kr c s).filter (fun x=>(stL m.L x.1).st==2):=List.mem_filter.2 ⟨U,by rw[M];simpa using z⟩
  rw[List.eq_nil_of_length_eq_zero Q]at this;simp at this
theorem Qw{T:List (Jk×Tsk)}{k:Jk}{x:Tsk}{now:Int}(b:zQ T k=I x){p:Jk×Tsk}(a:p∈qq T k (x.failed now)):∃q∈T,q.2.rl=p.2.rl/\q.2.s=p.2.s:=by
 rcases qs a with rfl|⟨a,_⟩
 ·exact⟨_,zO b,rfl,rfl⟩
 ·exact⟨p,a,rfl,rfl⟩
theorem zeO{now:Int}{TL:List (Jk×Tsk)}{QL:List (Tok×Lse)}{b:List (Jk×Tsk)}{Q1:List (Tok×Lse)}(h:YV now TL QL b Q1):∀p∈b,∃q∈TL,q.2.rl=p.2.rl/\q.2.s=p.2.s:=by
 induction h with
 |nil=>exact fun p a=>⟨p,a,rfl,rfl⟩
 |step l m n g k=>
  intro p a
  obtain⟨q,i,c,d⟩:=Qw g a
  obtain⟨r,j,e,f⟩:=k q i
  exact⟨r,j,e.trans c,f.trans d⟩
theorem zgx.mono{now a:Int}{L:LV}{rl:Bool}{s:Sg}(h:zgx c now L ns rl s)(hn:now<=a):zgx c a L ns rl s:=
 ⟨h.roll,fun e=>⟨by have:=(h.recl e).1;omega,(h.recl e).2⟩⟩
theorem zgx.live{now:Int}{L g:LV}{rl:Bool}{s:Sg}(h:zgx c now L ns rl s)(i:∀y,Wt g y->Wt L y):zgx c now g ns rl s:=
 ⟨fun e k b x f d a=>h.roll e k b x f d (i _ a),fun e=>⟨(h.recl e).1,fun x f d k b j a=>(h.recl e).2 x f d k b j (i _ a)⟩⟩
theorem vy.ticked(h:vy c m ns){a:Int}(hn:m.now<=a){b:List (Jk×Tsk)}{Q1:List (Tok×Lse)}(j:∀p∈b,∃q∈m.TL,q.2.rl=p.2.rl/\q.2.s=p.2.s)(num:Int):vy c {m with now:=a,num:=num,TL:=b,QL:=Q1} ns:=
 ⟨fun x k=>by have:=h.tm x k;exact⟨this.1,by show x.tm<=a;omega,this.2.2⟩,h.keys,h.has,h.gone,fun s i=>by have:=h.over s i;show _<=a;omega,h.cell,fun p f=>by
  obtain⟨q,g,d,e⟩:=j p f
  have:=(h.td q g).mono hn
  rw[d,e]at this;exact this⟩
end
def StK(w w':Y):Prop:=∀(q:Nat) (cs:Array D) (a:Nat×Nat),w.1[q]?=I (.cells cs 37 a)->w'.1[q]?=I (.cells cs 37 a)
theorem StK.refl(w:Y):StK w w:=fun _ _ _ h=>h
theorem StK.trans{a b d:Y}(h:StK a b)(f:StK b d):StK a d:=fun q cs c e=>f q cs c (h q cs c e)
theorem StK.below{w w':Y}(h:Z w.1.size w w'):StK w w':=fun q cs a e=>(h.block q (za e)).trans e
theorem StK.kept{f:Nat->Prop}{w w':Y}(h:zo f w w')(b:∀q cs a,w.1[q]?=I (.cells cs 37 a)->¬f q):StK w w':=fun q cs a e=>h.heap e (b q cs a e)
theorem StK.drew{w w':Y}(h:StK w w'):StK w w'.drew:=h
theorem StK.alloc{w w':Y}(h:StK w w')(o:Obj):StK w (w'.alloc o):=h.trans (StK.below ((C _ _).alloc (z9 _) o))
theorem StK.row{w w':Y}{B:Nat}{e:TypeId}{size n:Nat}{v:D}{xs:List D}(h:w.ownsRow B e size v n xs)(c:e≠37)(d:zo (fun k=>v.ownBlock=I k) w w'):StK w w':=
 StK.kept d (fun q cs g f hv=>by
  obtain⟨b,a⟩:=zG h hv
  rw[f]at a
  injection a with a;injection a with _ a;exact c a.symm)
theorem StK.set{w:Y}{g i:Nat}{cs:Array D}{t:TypeId}{d:Nat×Nat}(j:w.1[g]?=I (.cells cs t d))(l:t≠37)(v:D):StK w (w.setCell ⟨g,i,J⟩ v):=
 StK.kept (f:=fun k=>k=g) (zo.setCell (f:=fun k=>k=g) (zo.refl _ _) (p:=⟨g,i,J⟩) (fun _=>rfl) v) (fun q b h a e=>by
  have c:q=g:=e
  rw[c,j]at a
  injection a with a;injection a with _ a;exact l a)
theorem StK.mill{w w':Y}{i:Ids}{c:Cf}{ep:Int}{m:MS}(h:zC w i c ep m)(a:Kx i w w'):StK w w':=
 StK.kept a.kept (fun q cs d b=>h.tag b (by decide))
structure Bel(B:Nat)(w w':Y):Prop where
 bel:Z B w w'
 stk:StK w w'
section
variable {B:Nat} {w a b:Y}
theorem Bel.size(h:Bel B w a):w.1.size<=a.1.size:=h.bel.size
theorem Bel.trans(h:Bel B w a)(c:Bel B a b):Bel B w b:=⟨h.bel.trans c.bel,h.stk.trans c.stk⟩
theorem Bel.drew(h:Bel B w a):Bel B w a.drew:=⟨h.bel.drew,h.stk⟩
theorem Bel.alloc(h:Bel B w a)(b:B<=a.1.size)(o:Obj):Bel B w (a.alloc o):=⟨h.bel.alloc b o,h.stk.alloc o⟩
theorem Bel.of(h:Z w.1.size w a)(b:B<=w.1.size):Bel B w a:=⟨h.mono b,StK.below h⟩
theorem Bel.mill{i:Ids}{c:Cf}{ep:Int}{m:MS}(h:zC w i c ep m)(d:Kx i w a)(e:B<=w.1.size)(b:∀j,zY w i j->B<=j):Bel B w a:=⟨d.kept.below e b,StK.mill h d⟩
theorem Bel.row{e:TypeId}{size n:Nat}{v:D}{xs:List D}(h:w.ownsRow B e size v n xs)(d:e≠37)(b:zo (fun k=>v.ownBlock=I k) w a)(c:B<=w.1.size):Bel B w a:=⟨b.below c (fun q f=>(h.lt q f).1),StK.row h d b⟩
theorem Bel.set{g i:Nat}{cs:Array D}{t:TypeId}{b:Nat×Nat}(a:w.1[g]?=I (.cells cs t b))(d:t≠37)(c:B<=g)(v:D):Bel B w (w.setCell ⟨g,i,J⟩ v):=
 ⟨(zo.setCell (f:=fun k=>k=g) (zo.refl _ _) (p:=⟨g,i,J⟩) (fun _=>rfl) v).below (Nat.le_of_lt (Nat.lt_of_le_of_lt c (za a))) (fun q e=>by have h:q=g:=e;omega),StK.set a d v⟩
theorem Bel.unt{g k cap i:Nat}{us:List Int}(h:w.ownsRow B 3 1 (.slice (I ⟨g,0,J⟩) k cap) us.length (us.map (O E)))(v:D):Bel B w (w.setCell ⟨g,i,J⟩ v):=by
 obtain⟨a,b⟩:=zG h (k:=g) rfl
 exact Bel.set b (by decide) (h.lt g rfl).1 v
end
section
variable {c:Cf} {ep:Int} {m:MS} {ns:List Nm}
theorem zfu{L:LV}{s:Sg}{v:SV}:(s,v)∈qT L s v:=by
 unfold qT
 by_cases h:s∈zr L
 ·rw[if_pos h]
  obtain⟨p,a,e⟩:=List.mem_map.1 (show s∈L.map (·.1)from h)
  exact List.mem_map.2 ⟨p,a,by rw[if_pos e]⟩
 ·rw[if_neg h];simp
theorem JW{L:LV}{s:Sg}{v:SV}{p:Sg×SV}(b:p∈L)(a:p.1≠s):p∈qT L s v:=by
 unfold qT
 by_cases h:s∈zr L
 ·rw[if_pos h]
  exact List.mem_map.2 ⟨p,b,by rw[if_neg a]⟩
 ·rw[if_neg h];simp[b]
theorem Y8{L:LV}{x:Nm}{p:Sg×SV}(a:p∈kL c L x):p=(xk c x,⟨1,qp x.val ((yy L (xk c x)).map (·.cl))⟩)\/(p∈L/\p.1≠xk c x)\/∃j:Nat,j<c.n/\p=(zB c (j:Int) x,⟨2,xY⟩)/\zB c (j:Int) x∉zr L:=by
 rcases vG x c.n _ a with a|⟨j,b,e,hn⟩
 ·rcases qh a with a|a
  ·exact .inl a
  ·exact .inr (.inl a)
 ·exact .inr (.inr ⟨j,b,e,fun d=>hn (xG.2 (.inl d))⟩)
theorem zeq{L:LV}{x:Nm}{p:Sg×SV}(b:p∈L)(a:p.1≠xk c x):p∈kL c L x:=kO x c.n _ (JW b a)
theorem zbQ{L:LV}{x:Nm}{s:Sg}(h:s∈zr L):s∈zr (kL c L x):=by
 have a:s∈zr (qw c L x):=by unfold qw;exact xG.2 (.inl h)
 obtain⟨p,b,e⟩:=List.mem_map.1 (show s∈(qw c L x).map (·.1)from a)
 subst e
 exact ZJ (kO x c.n _ b)
theorem zgy{L:LV}{x:Nm}{y:Sg}(h:Wt (kL c L x) y):Wt L y\/∃j:Nat,j<c.n/\y=zB c (j:Int) x/\y∉zr L:=by
 obtain⟨v,hv,d⟩:=h
 rcases Y8 hv with e|⟨hv,_⟩|⟨j,f,e,hn⟩
 ·injection e with a b;subst b;simp at d
 ·exact .inl ⟨v,hv,d⟩
 ·injection e with a b;exact .inr ⟨j,f,a,by rw[a];exact hn⟩
theorem VW{L:LV}{x:Nm}(f:ym c m.now m.L m.Gl)(j:c.ok)(hv: -2147483648<=x.val/\x.val<=2147483647){P:Nm->Prop}[DecidablePred P](g:P x)
  (h:∀o,yy m.L (xk c x)=I o->IsC P ns o.cl) (i:yy m.L (xk c x)=J->∀y∈ns,¬P y):IsC P (ns++[x]) (qp x.val ((yy m.L (xk c x)).map (·.cl))):=by
 cases b:yy m.L (xk c x)with
 |none=>
  have:=(IsC.zero (i b)).add g
  have e:Qs xY x.val=qp x.val J:=by
   simp only[Qs,xY,qp,Int.zero_add,true_or,if_true]
   rw[show wrap64 x.val=x.val by unfold wrap64;omega]
  rw[e]at this
  exact this
 |some o=>
  obtain⟨a,k,l,n,p⟩:=MOk.rawAt f j b
  have:=(h o b).add g
  have e:Qs o.cl x.val=qp x.val (I o.cl):=by
   have d:¬o.cl.cnt=0:=by omega
   simp only[Qs,qp,d,false_or]
   rw[show wrap64 (o.cl.sum+x.val)=x.val+o.cl.sum by unfold wrap64;omega,Int.add_comm o.cl.cnt]
   congr 1
   ·by_cases a:o.cl.mn<x.val
    ·rw[if_pos a,if_neg (by omega)]
    ·rw[if_neg a];split<;>omega
   ·by_cases a:x.val<o.cl.mx
    ·rw[if_pos a,if_neg (by omega)]
    ·rw[if_neg a];split<;>omega
  rw[e]at this
  exact this
theorem vy.added(B:c.ok)(hf:c.fits)(l:MOk c ep m)(h:vy c m ns){x:Nm}(hs:0<=x.sr/\x.sr<4)(hx:0<=x.tm/\x.tm<=m.now)(T:m.now-c.la<=x.tm)(hv: -2147483648<=x.val/\x.val<=2147483647):
  vy c {m with L:=kL c m.L x} (ns++[x]):=by
 have d:∀{y:Nm},y∈ns++[x]->y∈ns\/y=x:=fun a=>by
  rcases List.mem_append.1 a with a|a
  ·exact .inl a
  ·exact .inr (List.mem_singleton.1 a)
 have w:∀t:Int,-1<=t->t<c.n->zB c t x∉zy m.Gl:=fun t q u=>Yx B l T q u
 have a0:=B.n1
 have G:∀y,Pub m.L y->Pub (kL c m.L x) y:=fun y ⟨v,H,M⟩=>⟨v,zeq H (fun e=>by
  have h4:=(l.seg.raw _ H (by rw[show y=xk c x from e];rfl)).1
  simp only at h4;omega),M⟩
 --no waiting segment of an elder number is new
 have K:∀y∈ns,∀t:Int,-1<=t->t<c.n->Wt (kL c m.L x) (zB c t y)->Wt m.L (zB c t y):=fun y a t q u A=>by
  rcases zgy A with A|⟨j,hj,e,hn⟩
  ·exact A
  ·exfalso
   rcases h.keys y a t q u with b|b
   ·exact hn b
   ·rw[e]at b;exact w j (by omega) (by omega) b
 have g:∀s:Sg,s∈zr m.L->c.clo m.now s->zB c s.t x≠s:=fun s b R e=>by
  have hin:=l.seg.inr _ (xu b)
  exact Ze B hin.2.1 hin.2.2.1 T (by rw[e];exact R)
 refine⟨fun y a=>?_,fun y a t q u=>?_,fun s V=>?_,fun y a k b hg=>?_,h.over,fun p f z=>?_,fun p f=>?_⟩
 ·rcases d a with a|rfl
  ·exact h.tm y a
  ·exact⟨hx.1,hx.2,hs.1,hs.2,hv⟩
 ·rcases d a with a|rfl
  ·exact(h.keys y a t q u).imp zbQ id
  ·left
   by_cases W:t= -1
   ·subst W
    have q:xk c y∈zr (qw c m.L y):=by unfold qw;exact xG.2 (.inr rfl)
    obtain⟨p,f,e⟩:=List.mem_map.1 (show xk c y∈(qw c m.L y).map (·.1)from q)
    show xk c y∈_
    rw[<-e]
    exact ZJ (kO y c.n _ f)
   ·have:=jY (c:=c) y c.n (qw c m.L y) t.toNat (by omega)
    rw[show((t.toNat:Nat):Int)=t by omega]at this
    exact this
 ·obtain⟨p,f,rfl⟩:=List.mem_map.1 (show s∈(kL c m.L x).map (·.1)from V)
  rcases Y8 f with rfl|⟨f,_⟩|⟨j,hj,rfl,_⟩
  ·exact⟨x,by simp,rfl⟩
  ·obtain⟨y,a,e⟩:=h.has _ (ZJ f)
   exact⟨y,by simp[a],e⟩
  ·exact⟨x,by simp,rfl⟩
 ·have N:=hf.down k b
  rcases d a with a|rfl
  ·exact(h.gone y a k b hg).imp id (G _)
  ·exact absurd hg (w _ N.1 (by omega))
 ·rcases Y8 f with rfl|⟨f,U⟩|⟨j,hj,rfl,_⟩
  ·refine VW (L:=m.L) l.seg B hv rfl (fun o r=>?_) (fun r y a e=>?_)
   ·have F:=kA r
    have q:=(l.seg.raw _ F rfl).1
    exact h.cell _ F (by simp only at q ⊢;omega)
   ·have X:zB c (-1) y=xk c x:=e
    rcases h.keys y a (-1) (by omega) (by omega)with b|b
    ·exact yp.1 r (X▸b)
    ·exact w (-1) (by omega) (by omega) (show xk c x∈_ from X▸b)
  ·refine(h.cell p f z).skip (fun e=>?_)
   have hin:=l.seg.inr p f
   by_cases W:p.1.t= -1
   ·exact U (by rw[<-e,W];rfl)
   ·rcases l.seg.tier p f (by have:=hin.2.1;omega)with u|M
    ·exact z u
    ·exact KO B l T hin.2.1 hin.2.2.1 ⟨p.2,by rw[e];exact f,M⟩
  ·exact absurd rfl z
 ·have r:=l.td p f
  have hin:=l.seg.inr _ (xu r.mem)
  have Q:=h.td p f
  refine⟨fun e k b y a i A=>?_,fun e=>⟨(Q.recl e).1,fun y a i k b N A=>?_⟩⟩
  ·have S:k<c.n:=by have:=hin.2.2.1;simp only at this;omega
   have P:=hf.down k S
   rcases d a with a|rfl
   ·exact Q.roll e k b y a i (K y a _ P.1 (by omega) A)
   ·exact g _ r.mem r.clo i
  ·rcases d a with a|rfl
   ·exact(Q.recl e).2 y a i k b N (K y a _ (by omega) (by omega) A)
   ·exact g _ r.mem r.clo i
theorem ziu{q y v:Int}(e:1<=q):y/q=v↔v*q<=y/\y<v*q+q:=by
 constructor
 ·intro h
  subst h
  have a:=Int.emod_add_mul_ediv y q
  have b:=Int.emod_nonneg y (show q≠0 by omega)
  have c:=Int.emod_lt_of_pos y (show 0<q by omega)
  rw[Int.mul_comm]at a
  omega
 ·rintro⟨a,b⟩
  have c:v<=y/q:=(Int.le_ediv_iff_mul_le (by omega)).2 a
  have d:y/q<v+1:=(Int.ediv_lt_iff_lt_mul (by omega)).2 (by rw[Int.add_mul,Int.one_mul];exact b)
  omega
theorem vy.rolled(hc:c.ok)(hf:c.fits)(T:MOk c ep m)(h:vy c m ns)(N:(ns.length:Int)<9223372036854775808){j:Jk}{s:Sg}{se ti rest:Int}{k:Nat}(hx:zQ m.TL j=I ⟨true,s,se,ti,rest⟩)(M:s.t=k)(Q1:List (Tok×Lse)):
  vy c {m with L:=qT m.L s ⟨3,xi (zW c m.L s.sr s.wa k)⟩,TL:=xe m.TL j,QL:=Q1} ns:=by
 have ho:=T.td _ (zO hx)
 have hR:=(h.td _ (zO hx)).roll rfl
 have g:s∈zr m.L:=ho.mem
 have hin:=T.seg.inr _ (xu g)
 have a0:(stL m.L s).st=2:=ho.roll rfl
 have A:k<c.n:=by have:=hin.2.2.1;simp only at this;omega
 have hF:=hf.down k A
 have a3:=(hc.wt hF.1 (show c.F k<c.n by omega)).1
 obtain⟨q,X,hq⟩:=hf.quot k A
 have B:xK c k=q:=by
  unfold xK
  rw[yv,hq,Int.mul_ediv_cancel_left _ (by omega)]
 have o:∀x∈ns,(x.sr=s.sr/\s.wa*q<=x.tm/c.wt (c.F k)/\x.tm/c.wt (c.F k)<s.wa*q+q)↔zB c s.t x=s:=fun x b=>by
  have h0:=(h.tm x b).1
  rw[<-ziu X,Int.ediv_ediv_of_nonneg (by omega),<-hq,M]
  obtain⟨st,ss,sw⟩:=s
  simp only at M ⊢
  unfold zB
  rw[yv]
  subst M
  simp only[Sg.mk.injEq,true_and]
 have l:¬Pub m.L s:=fun⟨v,hv,h3⟩=>by rw[J3 T.seg.nl (xu g) hv]at a0;omega
 have u:IsC (fun x=>zB c s.t x=s) ns (xi (zW c m.L s.sr s.wa k)):=by
  unfold zW
  rw[B]
  have r:((q.toNat:Nat):Int)=q:=by omega
  have:=(Vq (L:=m.L) (wd:=c.wt (c.F k)) (f:=c.F k) (sr:=s.sr) (a:=s.wa*q) N q.toNat (fun i hi=>?_)).1
  ·rw[r]at this
   exact this.congr o
  ·have a2:(i:Int)<q:=by omega
   have d:∀x:Nm,(x.sr=s.sr/\x.tm/c.wt (c.F k)=s.wa*q+i)↔zB c (c.F k) x=⟨c.F k,s.sr,s.wa*q+i⟩:=fun x=>by
    unfold zB;simp only[Sg.mk.injEq,true_and]
   have S:∀x∈ns,(x.sr=s.sr/\x.tm/c.wt (c.F k)=s.wa*q+i)->zB c s.t x=s:=fun x b e=>(o x b).1 ⟨e.1,by omega,by omega⟩
   refine⟨fun v hv=>?_,fun hn x b e=>?_⟩
   ·have G:=kA hv
    obtain⟨y,H,e⟩:=h.has _ (ZJ G)
    have U:=(d y).2 e
    have W:v.st≠2:=fun K=>hR k M y H (S y H U) ⟨v,by rw[(d y).1 U];exact G,K⟩
    have hC:=h.cell _ G W
    refine⟨hC.congr (fun x _=>(d x).symm),fun h0=>yn.1 h0 y H U⟩
   ·have e1:=(d x).1 e
    rcases h.keys x b (c.F k) hF.1 (by omega)with z|z
    ·exact yp.1 hn (e1▸z)
    ·have hs:=S x b e
     have R:zB c (k:Int) x=s:=by rw[<-M];exact hs
     rcases h.gone x b k A z with w|w
     ·rw[R]at w;exact T.seg.disj _ (xu g) w
     ·rw[R]at w;exact l w
 have a1:∀y,Wt (qT m.L s ⟨3,xi (zW c m.L s.sr s.wa k)⟩) y->Wt m.L y:=fun y ⟨v,hv,K⟩=>by
  rcases qh hv with e|⟨hv,_⟩
  ·injection e with e1 e2;subst e2;simp at K
  ·exact⟨v,hv,K⟩
 refine⟨h.tm,fun x b t h1 K=>(h.keys x b t h1 K).imp (fun z=>xG.2 (.inl z)) id,fun y H=>?_,fun x b k' V w=>?_,h.over,fun p P Q=>?_,fun p P=>((h.td p (xc.1 P).1).live a1)⟩
 ·rcases xG.1 H with H|rfl
  ·exact h.has y H
  ·exact h.has _ g
 ·rcases h.gone x b k' V w with z|⟨v,hv,h3⟩
  ·exact .inl z
  ·right
   by_cases e:zB c (k':Int) x=s
   ·rw[e];exact⟨_,zfu,rfl⟩
   ·exact⟨v,JW hv e,h3⟩
 ·rcases qh P with rfl|⟨P,_⟩
  ·exact u
  ·exact h.cell p P Q
theorem vy.reclaimed(P:c.ok)(Q:c.fits)(G:MOk c ep m)(h:vy c m ns){j:Jk}{s:Sg}{se ti rest:Int}(K:zQ m.TL j=I ⟨false,s,se,ti,rest⟩)(Q1:List (Tok×Lse)):
  vy c {m with L:=xe m.L s,Gl:=qq m.Gl s (),TL:=xe m.TL j,QL:=Q1} ns:=by
 have N:=G.td _ (zO K)
 have A:=(h.td _ (zO K)).recl rfl
 have H:s∈zr m.L:=N.mem
 have n:∀y,y∈zr m.L->y≠s->y∈zr (xe m.L s):=fun y f u=>by
  obtain⟨p,d,rfl⟩:=List.mem_map.1 (show y∈m.L.map (·.1)from f)
  exact ZJ (xc.2 ⟨d,u⟩)
 have z:∀y,Wt (xe m.L s) y->Wt m.L y:=fun y ⟨v,hv,i⟩=>⟨v,(xc.1 hv).1,i⟩
 refine⟨h.tm,fun x b t M i=>?_,fun y f=>?_,fun x b k B g=>?_,fun y f=>?_,fun p d q=>h.cell p (xc.1 d).1 q,fun p d=>((h.td p (xc.1 d).1).live z)⟩
 ·by_cases e:zB c t x=s
  ·exact .inr (xw.2 (.inr e))
  ·exact(h.keys x b t M i).imp (fun a=>n _ a e) (fun a=>xw.2 (.inl a))
 ·obtain⟨p,d,rfl⟩:=List.mem_map.1 (show y∈(xe m.L s).map (·.1)from f)
  exact h.has _ (ZJ (xc.1 d).1)
 ·by_cases e:zB c (k:Int) x=s
  ·exact .inl (xw.2 (.inr e))
  ·have o:Pub m.L (zB c (k:Int) x)->Pub (xe m.L s) (zB c (k:Int) x):=fun⟨v,hv,r⟩=>⟨v,xc.2 ⟨hv,e⟩,r⟩
   rcases xw.1 g with g|g
   ·exact(h.gone x b k B g).imp (fun a=>xw.2 (.inl a)) o
   ·have l:c.F k=s.t:=by rw[<-g];rfl
    have w:=A.2 x b (by rw[<-l];exact g) k B l
    rcases h.keys x b k (by omega) (by omega)with a|a
    ·right
     refine o ⟨_,xu a,?_⟩
     rcases G.seg.tier _ (xu a) (by show(0:Int)<=k;omega)with i|r
     ·exact absurd ⟨_,xu a,i⟩ w
     ·exact r
    ·exact .inl (xw.2 (.inl a))
 ·rcases xw.1 f with f|rfl
  ·exact h.over y f
  ·exact A.1
theorem vy.act(e:c.ok)(f:c.fits){m':MS}{r:List Nm}(j:SOk c ep m ns.length)(h:vy c m ns)(o:(ns.length:Int)<9223372036854775808)(F:qP c ep m ns m' r):vy c m' r:=by
 cases F with
 |same=>exact h
 |added x d z A B M=>exact h.added e f j.ok d z A B
 |ticked n w l v hn q y K a=>
  have d:vy c {m with now:=m.now+n,TL:=w,QL:=v} ns:=h.ticked (by omega) (zeO y) m.num
  have b:ym c (m.now+n) m.L m.Gl:=(j.tick e f hn q y K a).1.ok.seg
  exact d.post e f b a
 |taken p slot a G=>exact h.ticked (Int.le_refl _) (fun p a=>⟨p,a,rfl,rfl⟩) _
 |failed t g x u i=>exact h.ticked (Int.le_refl _) (fun p a=>Qw i a) m.num
 |rolled t g s se ti rest k l u i H a=>
  have d:=h.rolled e f j.ok o i H (xe m.QL t)
  have b:=(j.ok.rolled u i rfl (xi (zW c m.L s.sr s.wa k))).1.seg
  exact d.post e f b a
 |reclaimed t g s se ti rest l u i a=>
  have d:=h.reclaimed e f j.ok i (xe m.QL t)
  have b:=(j.ok.reclaimed u i rfl).1.seg
  exact d.post e f b a
theorem vy.start(c:Cf)(now:Int):vy c ⟨now,[],[],0,[],[]⟩ []:=
 ⟨fun x a=>(by cases a),fun x a=>(by cases a),fun s d=>(by cases d),fun x a=>(by cases a),fun s d=>(by cases d),fun p b=>(by cases b),fun p b=>(by cases b)⟩
inductive Told (c:Cf) (m:MS) (ns:List Nm) (x:Nm) (t:Int) (q:Cl×Int):Prop
 |opn (h1:¬c.clo m.now (zB c t x)) (h2:q=(xY,9))
 |ok (h1:c.clo m.now (zB c t x)) (h2:q.2=0) (h3:IsC (fun y=>zB c t y=zB c t x) ns q.1)
 |wait (h1:c.clo m.now (zB c t x)) (h2:q=(xY,11)) (h3:0<=t)
 |gone (h1:c.clo m.now (zB c t x)) (h2:q=(xY,12)) (h3:((zB c t x).wa+1)*c.wt t+c.keep t<=m.now) (h4:∀k:Nat,k<c.n->c.F k=t->(xB c m.now m.Gl m.L k x.sr (x.tm/c.wt k)).2=0\/(xB c m.now m.Gl m.L k x.sr (x.tm/c.wt k)).2=12)
theorem Xd{Gl:List (Sg×Unit)}{L:LV}{s:Sg}(h:s∈zy Gl):(stG Gl L s).st=4:=by
 unfold stG
 cases a:zQ Gl s with
 |none=>exact absurd h (xR.1 a)
 |some u=>rfl
theorem Xe{Gl:List (Sg×Unit)}{L:LV}{s:Sg}(h:s∉zy Gl):stG Gl L s=stL L s:=by
 unfold stG
 rw[xR.2 h]
theorem vy.told(G:c.ok)(H:c.fits)(i:MOk c ep m)(h:vy c m ns){x:Nm}(w:x∈ns){t:Int}(y: -1<=t)(z:t<c.n):Told c m ns x t (xB c m.now m.Gl m.L t x.sr (x.tm/c.wt t)):=by
 by_cases d:c.clo m.now (zB c t x)
 ·have a:=d
  unfold Cf.clo at d
  have g:xB c m.now m.Gl m.L t x.sr (x.tm/c.wt t)=qk (stG m.Gl m.L (zB c t x)):=by
   unfold xB
   rw[if_neg (by simp only[zB]at d;omega)]
   rfl
  by_cases l:zB c t x∈zy m.Gl
  ·have A:=Xd (L:=m.L) l
   refine .gone a (by rw[g];unfold qk;rw[A];simp) (h.over _ l) (fun k q B=>?_)
   have o:=h.gone x w k q (by rw[B];exact l)
   have j:c.clo m.now (zB c (k:Int) x):=by
    rcases o with u|⟨v,hv,p⟩
    ·exact i.seg.goc _ u
    ·exact i.seg.pubc _ hv p
   have s:xB c m.now m.Gl m.L k x.sr (x.tm/c.wt k)=qk (stG m.Gl m.L (zB c k x)):=by
    unfold xB
    unfold Cf.clo at j
    rw[if_neg (by simp only[zB]at j;omega)]
    rfl
   rw[s]
   rcases o with u|⟨v,hv,p⟩
   ·right;unfold qk;rw[Xd u];simp
   ·left
    have r:zB c (k:Int) x∉zy m.Gl:=i.seg.disj _ hv
    have:=xu (ZJ hv)
    rw[Xe r,J3 i.seg.nl this hv]
    unfold qk;rw[p];simp
  ·have q:zB c t x∈zr m.L:=(h.keys x w t y z).resolve_right l
   have b:=xu q
   rw[Xe l]at g
   by_cases F:t= -1
   ·have f:=(i.seg.raw _ b (by rw[F];rfl)).1
    simp only at f
    have e:qk (stL m.L (zB c t x))=((stL m.L (zB c t x)).cl,0):=by unfold qk;rw[f];simp
    refine .ok a (by rw[g,e]) ?_
    rw[g,e]
    exact h.cell _ b (by simp only;omega)
   ·rcases i.seg.tier _ b (by show 0<=t;omega)with f|f
    ·simp only at f
     exact .wait a (by rw[g];unfold qk;rw[f];simp) (by omega)
    ·simp only at f
     have e:qk (stL m.L (zB c t x))=((stL m.L (zB c t x)).cl,0):=by unfold qk;rw[f];simp
     refine .ok a (by rw[g,e]) ?_
     rw[g,e]
     exact h.cell _ b (by simp only;omega)
 ·refine .opn d ?_
  unfold Cf.clo at d
  unfold xB
  rw[if_pos (by simp only[zB]at d;omega)]
end
theorem yN{P:Program}{id:Nat}{Q:Exit->Act->Y->Prop}{a:Act}{w:Y}{l:List Oper}(d:P.follows .mixedOrders=true)(c:Region.lexB .any l.toArray=true)(h:wpStill P l.toArray w.drew (fun b=>Q .normal b w.drew) l a):(Code.region id l.toArray true).wp P Q a w:=wp_region_still_lit d c h
theorem Jj{P:Program}{ops:Array Oper}{w:Y}{Q:Act->Prop}{o:Oper}{rest:List Oper}{a:Act}(h:Region.wanted o (yielded ops a.tmps)=false)(b:wpStill P ops w Q rest (a.put o.dst undef)):wpStill P ops w Q (o::rest) a:=by
 unfold wpStill
 rw[h]
 exact b
section
variable {w:Y} {B:Nat} {s:Shp} {c:Cf} {ep:Int} {m:MS} {sn:Int} {ns:List Nm} {ks:List Tok} {us:List Int}
theorem zI.more(h:zI w B s c ep m sn ns ks us):w.cell? ⟨s.p,5,J⟩=I (O E c.wi)/\w.cell? ⟨s.p,6,J⟩=I (O E c.ke):=by
 constructor<;>rw[xD h.head]<;>rfl
theorem zI.tiers(h:zI w B s c ep m sn ns ks us)(k:c.ok):∃b d cap,s.ct=.slice (I ⟨b,d,J⟩) c.n cap/\b<w.1.size/\∀i,i<c.n->w.cell? ⟨b,d+i*3,J⟩=I (O E (c.F i))/\w.cell? ⟨b,d+i*3+1,J⟩=I (O E (c.W i))/\w.cell? ⟨b,d+i*3+2,J⟩=I (O E (c.K i)):=by
 obtain⟨a,cap,e⟩:=zS h.crow
 have j:=h.crow
 rw[e]at j
 obtain⟨b,d,rfl,f,g⟩:=TS.of_owns j (by have:=k.n1;omega)
 exact⟨b,d,cap,e,f,g⟩
theorem QW(h:zI w B s c ep m sn ns ks us)(f:c.ok)(t:Int)(r: -1<=t)(u:t<c.n):
  Calls prog 58 #[.pointer (I ⟨s.p,0,J⟩),O E t] w fun e w'=>e=.returned (O E (c.wt t))/\w'=w:=by
 have v:=h.lt
 obtain⟨x,y⟩:=h.more
 have l:=f.n4
 by_cases g:t= -1
 ·subst g
  have e:c.wt (-1)=c.wi:=by unfold Cf.wt zT;rw[if_pos rfl]
  rw[e]
  clear h f e
  go_enter func58,ntmps58
  go_wp2_with fail
  go_ret
  exact⟨rfl,rfl⟩
 ·obtain⟨k,rfl⟩:∃k:Nat,t=k:=⟨t.toNat,by omega⟩
  rw[yv]
  obtain⟨b,o,cap,d,j,a⟩:=h.tiers f
  obtain⟨-,-,-,-,-,i,-⟩:=h.cells
  rw[d]at i
  obtain⟨-,q,-⟩:=a k (by omega)
  clear h f d a g
  go_enter func58,ntmps58
  go_wp2_with fail
  go_ret
  exact⟨rfl,rfl⟩
theorem zdE(h:zI w B s c ep m sn ns ks us)(f:c.ok)(t:Int)(r: -1<=t)(u:t<c.n):
  Calls prog 84 #[.pointer (I ⟨s.p,0,J⟩),O E t] w fun e w'=>e=.returned (O E (c.keep t))/\w'=w:=by
 have v:=h.lt
 obtain⟨x,y⟩:=h.more
 have l:=f.n4
 by_cases g:t= -1
 ·subst g
  have e:c.keep (-1)=c.ke:=by unfold Cf.keep;rw[if_pos rfl]
  rw[e]
  clear h f e
  go_enter func84,ntmps84
  go_wp2_with fail
  go_ret
  exact⟨rfl,rfl⟩
 ·obtain⟨k,rfl⟩:∃k:Nat,t=k:=⟨t.toNat,by omega⟩
  have e:c.keep (k:Int)=c.K k:=by unfold Cf.keep;rw[if_neg g];simp
  rw[e]
  obtain⟨b,o,cap,d,j,a⟩:=h.tiers f
  obtain⟨-,-,-,-,-,i,-⟩:=h.cells
  rw[d]at i
  obtain⟨-,-,q⟩:=a k (by omega)
  clear h f d a g e
  go_enter func84,ntmps84
  go_wp2_with fail
  go_ret
  exact⟨rfl,rfl⟩
end
def ZH(n:Int)(t:Nat)(us:List Int):List Int:=(us.take t).map (zaw n)++us.drop t
theorem Yb(n:Int)(t:Nat)(us:List Int):(ZH n t us).length=us.length:=by unfold ZH;simp;omega
theorem Kg(n:Int)(us:List Int):ZH n 0 us=us:=by simp[ZH]
theorem Jz(n:Int)(us:List Int):ZH n us.length us=us.map (zaw n):=by simp[ZH]
theorem zcp(n:Int)(t:Nat)(us:List Int)(a:t<us.length):(ZH n t us)[t]?=us[t]?:=by
 unfold ZH
 rw[List.getElem?_append_right (by simp;omega)]
 simp[Nat.min_eq_left (Nat.le_of_lt a)]
theorem Kf(n:Int)(t:Nat)(us:List Int)(e:t<us.length):ZH n (t+1) us=(ZH n t us).set t (zaw n us[t]):=by
 apply List.ext_getElem?
 intro i
 rw[List.getElem?_set,Yb]
 have c:∀b i,b<=us.length->(ZH n b us)[i]?=if i<b then us[i]?.map (zaw n)else us[i]?:=fun b i f=>by
  unfold ZH
  by_cases a:i<b
  ·rw[List.getElem?_append_left (by simp;omega),if_pos a,List.getElem?_map,List.getElem?_take_of_lt a]
  ·rw[List.getElem?_append_right (by simp;omega),if_neg a]
   simp[Nat.min_eq_left f]
   congr 1
   omega
 rw[c _ _ (by omega),c _ _ (by omega)]
 by_cases a:t=i
 ·subst a
  rw[if_pos (by omega),if_pos rfl,if_pos e]
  simp[e]
 ·rw[if_neg a]
  by_cases d:i<t
  ·rw[if_pos (by omega),if_pos d]
  ·rw[if_neg (by omega),if_neg d]
theorem JA{n u:Int}(h:u<=n):zaw n u=0:=by unfold zaw;rw[if_pos h]
theorem Kh{n u:Int}(h:¬u<=n):zaw n u=u:=by unfold zaw;rw[if_neg h]
theorem zac{l:List Int}{t:Nat}{u:Int}(h:l[t]?=I u):l.set t u=l:=by
 apply List.ext_getElem?
 intro i
 rw[List.getElem?_set]
 split
 ·rename_i e;subst e
  obtain⟨a,b⟩:=List.getElem?_eq_some_iff.1 h
  rw[if_pos a,h]
 ·rfl
theorem Zt(w:Y)(g i:Nat)(v:D):zo (fun k=>k=g) w (w.setCell ⟨g,i,J⟩ v):=zo.setCell (f:=fun k=>k=g) (zo.refl _ _) (p:=⟨g,i,J⟩) (fun _=>rfl) v
section
variable {w:Y} {B p:Nat} {c:Cf} {ep:Int} {m:MS} {ns:List Nm} {j:Nat}
theorem vF.size(h:vF w B p c ep m ns j):B<=w.1.size:=by
 obtain⟨s,k,rfl,a,_⟩:=h
 have:=a.lo;have:=a.lt;omega
end
theorem zbA{w:Y}{B p:Nat}{c:Cf}{ep:Int}{m:MS}{ns:List Nm}{j:Nat}(v:vF w B p c ep m ns j)(n:Int)(hn:1<=n/\n<=1000)(r:100000<m.now+n):
  Calls prog 17 #[.pointer (I ⟨p,0,J⟩),O E n] w fun e w'=>e=.returned (.bool true)/\Z w.1.size w w':=by
 obtain⟨s,k,rfl,h,F,g,_⟩:=v
 obtain⟨z,_,_,_,_,_,o,_⟩:=h.cells
 have d:=h.lt
 have b:=g.ok.now
 have l:=fun W (q:Z w.1.size w W)=>zd (zcZ (h.later q).mill n (.inr (.inr r)) b)
 obtain⟨t,u⟩:=hn
 obtain⟨x,y⟩:=b
 clear h g
 go_enter func17,ntmps17
 go_wp2_with(first|(go_at_call 26;refine(ud (l _ (C _ _))).mono ?_;rintro e G ⟨rfl,a⟩;have A:=(a.cell (p:=⟨s.p,9,J⟩) d).trans o;have i:=z7 d a.size;have f:=zd a;clear a))
 go_ret
 exact⟨rfl,ud f⟩
theorem zbz{w:Y}{B p:Nat}{c:Cf}{ep:Int}{m:MS}{ns:List Nm}{j:Nat}(hs:vF w B p c ep m ns j)(P:c.ok)(hf:c.fits)(n:Int)(hn:1<=n/\n<=1000)(hl:m.now+n<=100000)(hj:j<=4398046511104):
  Calls prog 17 #[.pointer (I ⟨p,0,J⟩),O E n] w fun e w'=>e=.returned (.bool true)/\∃m',qP c ep m ns m' ns/\vF w' B p c ep m' ns j/\Bel B w w':=by
 have ak:=hs.size
 obtain⟨⟨N,si,sd,a5,a7,a6,aA⟩,k,rfl,h,hk,f,ag,ah⟩:=hs
 dsimp only at*
 obtain⟨c0,_,_,_,_,_,c9,_,_,V⟩:=h.cells
 have a2:=h.lt
 have v:=f.ok.now
 obtain⟨ua,uc,M⟩:=zS h.urow
 rw[zP]at M
 dsimp only at M c0 c9 V a2
 subst M
 have HT:=zd (Zv h.mill P n hn ⟨v.1,hl⟩ (f.ok.binv P) f.ok.seg.inr (by have:=f.ok.seg.len400 P;omega) (fun T Q he=>by
  have W:=(Ye (ep:=ep) (c:=c) (L:=m.L) (num:=m.num) (show m.now<=m.now+n by omega) f.ok.td f.ok.nt f.ok.leas f.ok.nq f.ok.jobs he)
  have h8:=j4 (zy T) (zy m.TL) W.2.1 (fun x hx=>(W.2.2.2.2.2.2.2 x).1 hx)
  have h7:=f.ok.t800 P
  simp[zy]at h8
  omega))
 have hd:decide (100000<m.now+n)=false:=by simp;omega
 have az:IntKind.i64.wrap (m.now+n)=m.now+n:=by rw[IntKind.wrap_i64];omega
 have H:=zd h
 have HO:=zd f
 obtain⟨a1,av⟩:=hn
 obtain⟨ax,ay⟩:=v
 clear h f V
 go_enter func17,ntmps17
 go_wp2_with(first|(go_at_call 26;refine(ud HT).mono ?_;rintro e w1 ⟨rfl,ac,r,F,hM,hK,he,hq,hp⟩;have a:=(ud H).putMill hM hK;have X:=a.setNow (m.now+n);have d9:=(a.cells).2.2.2.2.2.2.1;dsimp only at d9;have df:=fun j=>zE a.head j;have z:=a.lt;dsimp only at z df;have S:=zd X;have HA:=zd (qP.ticked (c:=c) (ep:=ep) m ns n ac F r a1 hl he hq hp);have HU:=zd (((ud HO).tick P hf a1 hl he hq hp).2 k);have HK:=zd (Bel.mill (ud H).mill hK ak (ud H).mlo);have aa:=zd a.head;clear hM hK he hq hp a X))
 have aj:B<=N:=(ud H).lo
 have a3:zI (w1.setCell ⟨N,9,J⟩ (O E (m.now+n))) B ⟨N,si,sd,a5,a7,a6,.slice ua k uc⟩ c ep {m with now:=m.now+n,TL:=F,QL:=r} (m.now+n) ns (vB ep k) (ZH (m.now+n) 0 (qt ep m.QL k)):=by rw[Kg];exact ud S
 have hbs:Bel B w (w1.setCell ⟨N,9,J⟩ (O E (m.now+n))):=(ud HK).trans (Bel.set (ud aa) (by decide) aj _)
 have ab:=zd a3
 have a9:=zd hbs
 have a4:=zP ep m.QL k
 have q:=zd a4
 clear a3 hbs d9 df z c0 c9 a2 S HT a4
 go_loopw [6] (fun y wr=>∃(t:Nat),t<=k/\y=O E t/\zI wr B ⟨N,si,sd,a5,a7,a6,.slice ua k uc⟩ c ep {m with now:=m.now+n,TL:=F,QL:=r} (m.now+n) ns (vB ep k) (ZH (m.now+n) t (qt ep m.QL k))/\Bel B w wr) (fun y _=>k-(intOf y).toNat)
 case atStart=>exact⟨0,Nat.zero_le _,rfl,ud ab,ud a9⟩
 case round=>
  obtain⟨t,aw,rfl,i,hb⟩:=hrel
  obtain⟨-,-,-,-,-,-,e9,-,-,ad⟩:=i.cells
  dsimp only at e9 ad
  have ai:=i.lt
  dsimp only at ai
  have au:(k:Int)<=4398046511104:=by omega
  by_cases d:t<k
  ·have ao:(t:Int)<k:=by omega
   have b:=Yb (m.now+n) t (qt ep m.QL k)
   rw[ud q]at b
   obtain⟨g,gc,K,ar,ae,aq⟩:=vs i.urow (j:=t) (by rw[b];exact d)
   rw[b]at K
   dsimp only at K
   cases K
   have G:(ZH (m.now+n) t (qt ep m.QL k))[t]?=I (kK m.QL ⟨ep,(t:Int)+1⟩):=by rw[zcp _ _ _ (by rw[ud q];exact d),yE _ _ _ _ d]
   have hu:(ZH (m.now+n) t (qt ep m.QL k))[t]'(by rw[b];exact d)=kK m.QL ⟨ep,(t:Int)+1⟩:=by have:=List.getElem?_eq_some_iff.1 G;exact this.2
   rw[hu]at ae
   have l:ZH (m.now+n) (t+1) (qt ep m.QL k)=(ZH (m.now+n) t (qt ep m.QL k)).set t (zaw (m.now+n) (kK m.QL ⟨ep,(t:Int)+1⟩)):=by
    rw[Kf _ _ _ (by rw[ud q];exact d)]
    congr 2
    have:=List.getElem?_eq_some_iff.1 (yE ep m.QL k t d)
    exact this.2
   have s:=zd l
   have a8:=zd G
   have o:=zd i
   have A:=i.setUnt (g:=g) (cap:=uc) (by rw[b]) t 0
   have U:=zd A
   have ap:B<=g:=(i.urow.lt g rfl).1
   have R:=zd hb
   have af:¬g=N:=zu i.head i.urow (by decide) g rfl
   have al:¬N=g:=fun e=>af e.symm
   clear i b l G A hu hb
   generalize kK m.QL ⟨ep,(t:Int)+1⟩=u at*
   by_cases a0:u<=m.now+n
   ·go_wp2_with fail
    go_still (by kernel_rfl)
    go_wp2_with fail
    go_roundw
    case rel=>
     refine⟨t+1,by omega,by go_num,?_,((ud R).trans (Bel.unt (ud o).urow _)).drew⟩
     rw[ud s,JA a0]
     exact(ud U).later (C _ _).drew
    case measure=>simp[intOf];omega
   ·have am:decide (u<=m.now+n)=false:=by simpa using a0
    go_wp2_with fail
    go_still (by kernel_rfl)
    go_wp2_with fail
    go_roundw
    case rel=>
     refine⟨t+1,by omega,by go_num,?_,(ud R).drew⟩
     rw[ud s,Kh (by omega),zac (ud a8)]
     exact(ud o).later (C _ _).drew
    case measure=>simp[intOf];omega
  ·have an:decide ((t:Int)<k)=false:=by simp;omega
   have o:=zd i
   clear i
   go_wp2_with fail
   go_ret
   have ht:t=k:=by omega
   subst ht
   have W:=ud o
   have h8:ZH (m.now+n) t (qt ep m.QL t)=qt ep r t:=by
    have e1:=Jz (m.now+n) (qt ep m.QL t)
    rw[ud q]at e1
    rw[e1,ud HU]
   rw[h8]at W
   exact⟨rfl,_,ud HA,⟨_,t,rfl,W,hk,(ud HA).ok P hf (ud HO),ag,ah⟩,hb⟩
end Go.Proofs.YtndhpgciopcncaaGreatDoor
