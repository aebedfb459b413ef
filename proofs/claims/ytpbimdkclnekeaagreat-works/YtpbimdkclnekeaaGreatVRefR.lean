import Derived.Test.YtpbimdkclnekeaaGreatVOrd1
open Go.Value renaming int → I
open Go.IntKind renaming i64 → J
open Option renaming none → E
open Option renaming some → U
open Go renaming World → Z
open Nat renaming le_refl → G
open Go.RowKit.Below renaming refl → P
open Go.RowKit renaming Below → R
open Go renaming Value → T
set_option linter.unusedVariables false
set_option maxRecDepth 100000
set_option maxHeartbeats 4000000
open Go.Proofs.Tryz
namespace Go.Proofs.YtpbimdkclnekeaaGreat
open Go.ChangeMaps (setBlock)
open Go.RowKit Go.Maps Go.Shelf
abbrev tkA(x:Tk):T:=.agg #[I J x.kind,I J x.s.t,I J x.s.se,I J x.s.we,I J x.si,I J x.tc,I J x.rest,I J x.ep,I J x.num,I J x.slot,I J x.till]
theorem zcC(x:Tk)(w:Z):
  Calls prog 163 #[tkA x] w fun e w'=>e=.returned (tkA x)/\R w.1.size w w':=by
 have b:=zo w (.cells #[I J x.kind,I J x.s.t,I J x.s.se,I J x.s.we,I J x.si,I J x.tc,I J x.rest,I J x.ep,I J x.num,I J x.slot,I J x.till] 239)
 obtain⟨j,k,l,m,n,o,p,q,r,u,h⟩:=xG (f:=x) b
 have i:=zd b
 obtain⟨-,c,a,-⟩:=box2 w (.cells #[I J x.kind,I J x.s.t,I J x.s.se,I J x.s.we,I J x.si,I J x.tc,I J x.rest,I J x.ep,I J x.num,I J x.slot,I J x.till] 239) (.cells #[I J x.kind,I J x.s.t,I J x.s.se,I J x.s.we,I J x.si,I J x.tc,I J x.rest,I J x.ep,I J x.num,I J x.slot,I J x.till] 51)
 have g:=ze c
 have d:=ze a
 clear b c a
 go_enter func163,ntmps163
 go_wp2_with fail
 refine bodyPost_ret (v:=tkA x) (results_cell_row results163 _ _ (w.1.size+1) _ _ _ _ rfl (ud g) underlying51 rfl (by kernel_rfl)) rfl ?_
 exact⟨rfl,ud d⟩
theorem Tryz.infoJobR:(prog.info? 51).map (fun i=>(i.zero,i.size,i.bytes))=U (U (.agg #[I J 0,I J 0,I J 0,I J 0,I J 0,I J 0,I J 0,I J 0,I J 0,I J 0,I J 0]),11,88):=by kernel_rfl
theorem zgb{w:Z}{ops:Array Oper}{rest:List Oper}{o:Oper}{a:Act}{Q:Exit->Act->Z->Prop}(f:o.guard=E)(s y:Operand)
  (m:o.op=.call {callee:=.builtin .append,args:=#[s,y],argTypes:=#[55,55]}) (base:Nat) (v:T) (l:List Tk) (x:Tk) (n:Nat) (p:a.eval s=v) (c:w.ownsRow base 51 11 v n (l.flatMap tkV))
  (d:Nat) (q:a.eval y=.slice (U ⟨d,0,E⟩) 1 1) (e:w.1[d]?=U (.cells #[I J x.kind,I J x.s.t,I J x.s.se,I J x.s.we,I J x.si,I J x.tc,I J x.rest,I J x.ep,I J x.num,I J x.slot,I J x.till] 51 (0,0))) (z:n<=1000000000) (b:base<=w.1.size)
  (h:∀g cap w',w'.ownsRow base 51 11 (.slice (U ⟨g,0,E⟩) (n+1) cap) (n+1) ((l++[x]).flatMap tkV)->w.grownBy w' v.ownBlock->g<w'.1.size->wpList prog ops Q rest (a.put o.dst (.slice (U ⟨g,0,E⟩) (n+1) cap)) w'):wpList prog ops Q (o::rest) a w:=
 zP f s y 55 m base 51 _ 11 88 underlying55 Tryz.infoJobR rfl (by decide) v n (l.flatMap tkV) p c ⟨d,0,E⟩ 1 1 (tkV x) q rfl
  (World.news_of_block (cs:=(tkV x).toArray) e) (XS x) (by decide) (by simp only[maxLen];omega) (by omega) b
  fun g cap w' i r j u k=>h g cap w' (by rw[List.flatMap_append];simpa using i) j k
theorem zgg{B:Nat}{w:Z}{p:Nat}{m:RM}{tv nv pv gv kv:T}(h:zJ B w p m tv nv pv gv kv)(a4:m.tg.length<=1000000000):
  Calls prog 109 #[.pointer (U ⟨p,0,E⟩)] w fun e w'=>∃v,e=.returned v/\w'.ownsRow w.1.size 51 11 v m.tg.length (m.tg.flatMap tkV)/\R w.1.size w w':=by
 obtain⟨ak,ck,F⟩:=zq h.krow
 subst F
 have H:=ze h
 clear h
 go_enter func109,ntmps109
 go_wp2_with fail
 go_loopw [3,4,5] (fun z y _ wr=>∃(k:Nat) (v:T),k<=m.tg.length/\y=I J k/\z=v/\wr.ownsRow w.1.size 51 11 v k ((m.tg.take k).flatMap tkV)/\R w.1.size w wr) (fun _ y _ _=>m.tg.length-(intOf y).toNat)
 case atStart=>exact⟨0,_,Nat.zero_le _,rfl,rfl,by simpa using World.ownsRow_nil _ _ _ _,P _ _⟩
 case round=>
  obtain⟨k,v,hk,rfl,rfl,o,i⟩:=hrel
  obtain⟨az,cz,hv⟩:=zq o
  subst hv
  have n:=(ud H).later i
  obtain⟨-,-,-,-,a9,-,-⟩:=n.rest
  have a6:=n.lt
  by_cases L:k<m.tg.length
  ·obtain⟨x,Q⟩:=xr L
   obtain⟨g,Y,hv,_,a3,y0,y1,y2,y3,y4,y5,y6,y7,y8,y9,W⟩:=Zd n.krow Q
   injection hv with M N O
   subst M O
   have HX:=ze Q
   have a5:(k:Int)<m.tg.length:=by omega
   have X:=ze (zcC x wr)
   have C:=ze o
   have q:=ze i
   have a8:=i.size
   clear Q n N o i
   go_wp2_with fail
   refine(ud X).mono ?_
   rintro e d ⟨rfl,b⟩
   have r:=ze b
   have l:=ze (zi (zi (ud C) (zk.of_below (f:=fun _=>False) b) (fun _ _ e=>e)) (zk.of_below (f:=fun _=>False) ((P d.1.size d).alloc (G _) (.cells #[I J x.kind,I J x.s.t,I J x.s.se,I J x.s.we,I J x.si,I J x.tc,I J x.rest,I J x.ep,I J x.num,I J x.slot,I J x.till] 51))) (fun _ _ e=>e))
   have a7:=b.size
   have V:=zo d (.cells #[I J x.kind,I J x.s.t,I J x.s.se,I J x.s.we,I J x.si,I J x.tc,I J x.rest,I J x.ep,I J x.num,I J x.slot,I J x.till] 51)
   obtain⟨b0,b1,b2,b3,b4,b5,b6,b7,b8,b9,a2,-⟩:=zc V
   have bl:=zd V
   have bz:=zF d (.cells #[I J x.kind,I J x.s.t,I J x.s.se,I J x.s.we,I J x.si,I J x.tc,I J x.rest,I J x.ep,I J x.num,I J x.slot,I J x.till] 51)
   clear b X y0 y1 y2 y3 y4 y5 y6 y7 y8 y9 W V
   go_wp2_with(first|(at_builtin;refine zgb rfl _ _ rfl w.1.size _ (m.tg.take k) x k rfl ((ud l).alloc _) (d.1.size+1) rfl ?hq ?hll ?hbb ?_;(case hq=>(have:=zo (d.alloc (.cells #[I J x.kind,I J x.s.t,I J x.s.se,I J x.s.we,I J x.si,I J x.tc,I J x.rest,I J x.ep,I J x.num,I J x.slot,I J x.till] 51)) (.cells #[I J x.kind,I J x.s.t,I J x.s.se,I J x.s.we,I J x.si,I J x.tc,I J x.rest,I J x.ep,I J x.num,I J x.slot,I J x.till] 51);rw[zF]at this;exact this));(case hll=>omega);(case hbb=>(rw[zF,zF];omega));intro g2 a0 w3 c a a1;have A:=ze c;have u:=ze a;clear c a)|fail)
   go_roundw
   case rel=>
    obtain⟨K,S⟩:=List.getElem?_eq_some_iff.1 (ud HX)
    refine⟨k+1,_,by omega,by go_num,rfl,?_,?_⟩
    ·rw[List.take_succ_eq_append_getElem K,S];exact ud A
    ·have hbb:R w.1.size w d:=(ud q).trans ((ud r).mono (ud q).size)
     exact((hbb.alloc hbb.size _).alloc (by rw[zF];omega) _).grown (ud u) (by rw[zF,zF];omega) (fun j e=>((ud l).lt j e).1)
   case measure=>simp[intOf];omega
  ·have D:k=m.tg.length:=by omega
   subst D
   have C:=ze o
   have q:=ze i
   clear o i n
   go_wp2_with fail
   go_ret
   exact⟨_,rfl,by simpa using ud C,ud q⟩
theorem zja(w:Z)(o:Obj)(c:Cf)(tv:T)(ep:Int):
  zM ((((w.alloc o).alloc (.map #[] 0)).alloc (.map #[] 0)).alloc (.cells #[I J c.s,I J c.le,I J c.la,I J c.wi,I J c.ke,I J c.qu,tv,I J ep,I J 0,.map (U (w.1.size+1)),.map (U (w.1.size+1+1))] 156)) (w.1.size+1+1+1) c tv ep 0 (w.1.size+1) (w.1.size+1+1) [] []:=by
 have a:=zF w o
 have b:=zF (w.alloc o) (.map #[] 0)
 have d:=zF ((w.alloc o).alloc (.map #[] 0)) (.map #[] 0)
 refine⟨?_,?_,?_,by omega⟩
 ·have h:=zo (((w.alloc o).alloc (.map #[] 0)).alloc (.map #[] 0)) (.cells #[I J c.s,I J c.le,I J c.la,I J c.wi,I J c.ke,I J c.qu,tv,I J ep,I J 0,.map (U (w.1.size+1)),.map (U (w.1.size+1+1))] 156)
  rw[d,b,a]at h
  exact h
 ·have h:=xh.made (M:=xO) (w.alloc o)
  rw[a]at h
  exact(h.later ((P _ _).alloc (G _) _)).later ((P _ _).alloc (G _) _)
 ·have h:=xh.made (M:=xz) ((w.alloc o).alloc (.map #[] 0))
  rw[b,a]at h
  exact h.later ((P _ _).alloc (G _) _)
theorem zhi(c:Cf)(a:Option Addr)(cap:Nat)(ep:Int)(w:Z):
  Calls prog 65 #[.agg #[I J c.s,I J c.le,I J c.la,I J c.wi,I J c.ke,I J c.qu,.slice a c.n cap],I J ep] w fun e w'=>∃b tb qb,e=.returned (.pointer (U ⟨b,0,E⟩))/\w.1.size<=b/\w.1.size<=tb/\w.1.size<=qb/\zM w' b c (.slice a c.n cap) ep 0 tb qb [] []/\R w.1.size w w':=by
 have h:∀W:Z,(Instr.makeMap 154 E).run prog W=.ok (.map (U W.1.size)) (W.alloc (.map #[] 0)):=fun W=>by kernel_rfl
 have i:∀W:Z,(Instr.makeMap 153 E).run prog W=.ok (.map (U W.1.size)) (W.alloc (.map #[] 0)):=fun W=>by kernel_rfl
 go_enter func65,ntmps65
 go_wp2_with fail
 go_ret
 refine⟨w.1.size+1+1+1,w.1.size+1,w.1.size+1+1,rfl,by omega,by omega,by omega,zja w _ c _ ep,?_⟩
 have d:R w.1.size w (w.alloc (.cells #[I J c.s,I J c.le,I J c.la,I J c.wi,I J c.ke,I J c.qu,.slice a c.n cap] 80)):=(P _ _).alloc (G _) _
 have f:=d.alloc d.size (.map #[] 0)
 have g:=f.alloc f.size (.map #[] 0)
 exact g.alloc g.size _
attribute [local go_sem] Oper.semAt_some
def Qu{α:Type}(a:α->α->Int)(o:Option α)(x:α):Option α:=match o with
 |none=>U x
 |some f=>if a x f<0 then U x else U f
def jE{α:Type}(a:α->α->Int)(l:List α):Option α:=l.foldl (Qu a) E
theorem zcT{α:Type}(a:α->α->Int)(l:List α)(x:α):jE a (l++[x])=Qu a (jE a l) x:=by simp[jE]
theorem XC{α:Type}(a:α->α->Int):∀(l:List α) (f:α),∃g,l.foldl (Qu a) (U f)=U g/\(g=f\/g∈l)
 |[],f=>⟨f,rfl,.inl rfl⟩
 |x::l,f=>by
  simp only[List.foldl_cons]
  by_cases h:a x f<0
  ·obtain⟨g,c,b⟩:=XC a l x
   refine⟨g,by simp only[Qu,if_pos h];exact c,.inr ?_⟩
   rcases b with rfl|b<;>simp[*]
  ·obtain⟨g,c,b⟩:=XC a l f
   refine⟨g,by simp only[Qu,if_neg h];exact c,?_⟩
   rcases b with rfl|b
   ·exact .inl rfl
   ·exact .inr (by simp[b])
theorem zeR{α:Type}(a:α->α->Int):∀l:List α,(l=[]/\jE a l=E)\/∃g∈l,jE a l=U g
 |[]=> .inl ⟨rfl,rfl⟩
 |x::l=> .inr (by
  obtain⟨g,c,b⟩:=XC a l x
  refine⟨g,?_,c⟩
  rcases b with rfl|b<;>simp[*])
def jO(o:Option Tsk):Obj:=match o with
 |none=> .cells #[.nilIface,I J 0,I J 0,I J 0] 162 (0,0)
 |some x=> .cells #[.iface x.jt (.agg #[I J x.s.t,I J x.s.se,I J x.s.we]),I J x.si,I J x.tc,I J x.rest] 162 (0,0)
structure FT(ov:T)(w:Z)(o:Option Tsk)(W:Z):Prop where
 i1:W.1[w.1.size]?=U (.cells #[ov] 167 (0,0))
 i2:W.1[w.1.size+1]?=U (jO E)
 i3:W.1[w.1.size+2]?=U (jO o)
 i4:W.1[w.1.size+3]?=U (.cells #[.bool o.isSome] 4 (0,0))
 i5:R w.1.size w W
theorem FT.own{f:T}{w A B:Z}{o:Option Tsk}{row:Option Nat}{N:Nat}(g:w.1.size<=N)(c:FT f w o A)(a:A.grownBy B row)(b:∀r,row=U r->N<=r/\∃o:Obj,A.1[r]?=U o/\o.isCells=false):FT f w o B:=by
 refine⟨zG c.i1 a (fun r e=>(b r e).2),zG (by exact c.i2) a (fun r e=>(b r e).2),?_,zG c.i4 a (fun r e=>(b r e).2),c.i5.grown a c.i5.size (fun k e=>by have:=(b k e).1;omega)⟩
 have d:=c.i3
 cases o with
 |none=>exact zG d a (fun r e=>(b r e).2)
 |some x=>exact zG d a (fun r e=>(b r e).2)
theorem FT.later{b:T}{w A B:Z}{o:Option Tsk}(h:FT b w o A)(a:R A.1.size A B):FT b w o B:=
 ⟨(a.block _ (zd h.i1)).trans h.i1,(a.block _ (zd h.i2)).trans h.i2,(a.block _ (zd h.i3)).trans h.i3,(a.block _ (zd h.i4)).trans h.i4,h.i5.trans (a.mono h.i5.size)⟩
theorem zjm{c:T}{ex:Nat->Prop}{n m:Nat}{w W X:Z}{o b:Option Tsk}{N:Nat}(h:FT c w o W)(d:b=o)(a:R W.1.size W X):KeepsFrom N W X/\KX ex n m W X/\FT c w b X:=by
 subst d
 exact⟨zu a,KX.of_below a,h.later a⟩
theorem ziF{u:T}{ex:Nat->Prop}{n m:Nat}{w W X:Z}{o l:Option Tsk}{x:Tsk}{N:Nat}(hn:n<=w.1.size)(K:w.1.size+4<=m)(h:FT u w o W)(j:l=U x)(g:R W.1.size W X):
  KeepsFrom N W (((((X.setCell ⟨w.1.size+2,0,E⟩ (.iface x.jt (.agg #[I J x.s.t,I J x.s.se,I J x.s.we]))).setCell ⟨w.1.size+2,1,E⟩ (I J x.si)).setCell ⟨w.1.size+2,2,E⟩ (I J x.tc)).setCell ⟨w.1.size+2,3,E⟩ (I J x.rest)).setCell ⟨w.1.size+3,0,E⟩ (.bool true))/\KX ex n m W (((((X.setCell ⟨w.1.size+2,0,E⟩ (.iface x.jt (.agg #[I J x.s.t,I J x.s.se,I J x.s.we]))).setCell ⟨w.1.size+2,1,E⟩ (I J x.si)).setCell ⟨w.1.size+2,2,E⟩ (I J x.tc)).setCell ⟨w.1.size+2,3,E⟩ (I J x.rest)).setCell ⟨w.1.size+3,0,E⟩ (.bool true))/\FT u w l (((((X.setCell ⟨w.1.size+2,0,E⟩ (.iface x.jt (.agg #[I J x.s.t,I J x.s.se,I J x.s.we]))).setCell ⟨w.1.size+2,1,E⟩ (I J x.si)).setCell ⟨w.1.size+2,2,E⟩ (I J x.tc)).setCell ⟨w.1.size+2,3,E⟩ (I J x.rest)).setCell ⟨w.1.size+3,0,E⟩ (.bool true)):=by
 subst j
 have d:=h.later g
 have c:∃p q r s,X.1[w.1.size+2]?=U (.cells #[p,q,r,s] 162 (0,0)):=by
  have:=d.i3
  cases o with
  |none=>exact⟨_,_,_,_,this⟩
  |some y=>exact⟨_,_,_,_,this⟩
 obtain⟨p,q,r,s,c⟩:=c
 have v:=Qs c (.iface x.jt (.agg #[I J x.s.t,I J x.s.se,I J x.s.we])) (I J x.si) (I J x.tc) (I J x.rest)
 have b:∀k,k≠w.1.size+2->((((X.setCell ⟨w.1.size+2,0,E⟩ (.iface x.jt (.agg #[I J x.s.t,I J x.s.se,I J x.s.we]))).setCell ⟨w.1.size+2,1,E⟩ (I J x.si)).setCell ⟨w.1.size+2,2,E⟩ (I J x.tc)).setCell ⟨w.1.size+2,3,E⟩ (I J x.rest)).1[k]?=X.1[k]?:=fun k a=>by
  rw[zT a,zT a,zT a,zT a]
 have z:=xm (i:=0) ((b (w.1.size+3) (by omega)).trans d.i4) (.bool true)
 have B:KeepsOthers W (((((X.setCell ⟨w.1.size+2,0,E⟩ (.iface x.jt (.agg #[I J x.s.t,I J x.s.se,I J x.s.we]))).setCell ⟨w.1.size+2,1,E⟩ (I J x.si)).setCell ⟨w.1.size+2,2,E⟩ (I J x.tc)).setCell ⟨w.1.size+2,3,E⟩ (I J x.rest)).setCell ⟨w.1.size+3,0,E⟩ (.bool true)):=(((((qN g).trans (KeepsOthers.setCell _ _ _)).trans (KeepsOthers.setCell _ _ _)).trans (KeepsOthers.setCell _ _ _)).trans (KeepsOthers.setCell _ _ _)).trans (KeepsOthers.setCell _ _ _)
 have C:R w.1.size W (((((X.setCell ⟨w.1.size+2,0,E⟩ (.iface x.jt (.agg #[I J x.s.t,I J x.s.se,I J x.s.we]))).setCell ⟨w.1.size+2,1,E⟩ (I J x.si)).setCell ⟨w.1.size+2,2,E⟩ (I J x.tc)).setCell ⟨w.1.size+2,3,E⟩ (I J x.rest)).setCell ⟨w.1.size+3,0,E⟩ (.bool true)):=(((((g.mono h.i5.size).setCell (p:=⟨w.1.size+2,0,E⟩) (show w.1.size<=w.1.size+2 by omega) _).setCell (p:=⟨w.1.size+2,1,E⟩) (show w.1.size<=w.1.size+2 by omega) _).setCell (p:=⟨w.1.size+2,2,E⟩) (show w.1.size<=w.1.size+2 by omega) _).setCell (p:=⟨w.1.size+2,3,E⟩) (show w.1.size<=w.1.size+2 by omega) _).setCell (p:=⟨w.1.size+3,0,E⟩) (show w.1.size<=w.1.size+3 by omega) _
 have D:KX ex n m W (((((X.setCell ⟨w.1.size+2,0,E⟩ (.iface x.jt (.agg #[I J x.s.t,I J x.s.se,I J x.s.we]))).setCell ⟨w.1.size+2,1,E⟩ (I J x.si)).setCell ⟨w.1.size+2,2,E⟩ (I J x.tc)).setCell ⟨w.1.size+2,3,E⟩ (I J x.rest)).setCell ⟨w.1.size+3,0,E⟩ (.bool true)):=by
  refine(KX.of_below g).trans ?_
  refine⟨?_,fun k l L a j=>?_,fun k l A a=>?_⟩
  ·refine zk.mono (f:=fun k=>k=w.1.size+2\/k=w.1.size+3) ?_ (fun k _ e=> .inr (by omega))
   exact zn (zn (zn (zn (zn (zk.refl _ _) (.inl rfl)) (.inl rfl)) (.inl rfl)) (.inl rfl)) (.inr rfl)
  ·have F:k≠w.1.size+2:=fun e=>by rw[e,c]at a;cases a;cases j
   have H:k≠w.1.size+3:=fun e=>by rw[e,d.i4]at a;cases a;cases j
   rw[zT H,b k F];exact a
  ·rw[zT (by omega),b k (by omega)];exact a
 refine⟨B.from _,D,⟨?_,?_,?_,z,h.i5.trans C⟩⟩
 ·rw[zT (by omega),b _ (by omega)];exact d.i1
 ·rw[zT (by omega),b _ (by omega)];exact d.i2
 ·rw[zT (by omega)];exact v
theorem zcS{α:Type}(a:α->Tsk)(gf:Nat)(lb:Array T)(eg:∀args w,(callFunc gf args).run prog w=.ok (.enter gf args) w)(of:Nat)(oc:Array T)(eo:∀args w,(callFunc of args).run prog w=.ok (.enter of args) w){ex:Nat->Prop}{n N:Nat}{S:List α->Prop}(i:α->α->Int)(w:Z)(hn:n<=w.1.size)
  (ad:∀(x y:α) (W:Z),R w.1.size w W->Calls prog of (#[.agg #[.iface (a x).jt (.agg #[I J (a x).s.t,I J (a x).s.se,I J (a x).s.we]),I J (a x).si,I J (a x).tc,I J (a x).rest],.agg #[.iface (a y).jt (.agg #[I J (a y).s.t,I J (a y).s.se,I J (a y).s.we]),I J (a y).si,I J (a y).tc,I J (a y).rest]]++oc) W fun e W'=>e=.returned (I J (i x y))/\R W.1.size W W')
  (a6:jw ex n prog gf lb (fun x:α=>#[.agg #[.iface (a x).jt (.agg #[I J (a x).s.t,I J (a x).s.se,I J (a x).s.we]),I J (a x).si,I J (a x).tc,I J (a x).rest]]) S N w):
  Calls prog 85 #[.func (.func gf) #[] lb,.func (.func of) #[] oc] w fun e w'=>∃xs,S xs/\e=.returned (.tuple #[YQ ((jE i xs).map a),.bool (jE i xs).isSome])/\R w.1.size w w':=by
 have aa:=ze a6
 have af:=ze ad
 have ae:=ze eg
 have a9:=ze eo
 obtain⟨b1,b2,b3,a5,z⟩:=jr w (.cells #[(.func (.func of) #[] oc)] 167) (jO E) (jO E)
 have L:Hid (FT (.func (.func of) #[] oc) w E ((((w.alloc (.cells #[(.func (.func of) #[] oc)] 167)).alloc (jO E)).alloc (jO E)).alloc (.cells #[.bool false] 4))):=
  ⟨(Below.heap_alloc _ _ _ (by rw[z];omega)).trans b1,(Below.heap_alloc _ _ _ (by rw[z];omega)).trans b2,(Below.heap_alloc _ _ _ (by rw[z];omega)).trans b3,by have:=zo (((w.alloc (.cells #[(.func (.func of) #[] oc)] 167)).alloc (jO E)).alloc (jO E)) (.cells #[.bool false] 4);rw[z]at this;exact this,a5.alloc (by rw[z];omega) _⟩
 have BZ:Hid (((((w.alloc (.cells #[(.func (.func of) #[] oc)] 167)).alloc (jO E)).alloc (jO E)).alloc (.cells #[.bool false] 4)).1.size=w.1.size+4):=by show _=_;rw[zF,z]
 clear a6 ad eg eo b1 b2 b3 a5 z
 unfold jO at L BZ
 dsimp only at L BZ
 refine(callsIn_wide (n:=7)).1 ?_
 refine callsIn_of_wp_marks func85 rfl trivial ?_ rfl
 simp only[ntmps85,List.size_toArray,List.length_cons,List.length_nil,Nat.reduceAdd,Nat.reduceSub,Array.replicate_succ,Array.replicate_zero,List.push_toArray,List.append_toArray,List.nil_append,List.cons_append]
 gi_wp2
 obtain⟨W0,ac⟩:∃W0,((((w.alloc (.cells #[(.func (.func of) #[] oc)] 167)).alloc (.cells #[.nilIface,I J 0,I J 0,I J 0] 162)).alloc (.cells #[.nilIface,I J 0,I J 0,I J 0] 162)).alloc (.cells #[.bool false] 4))=W0:=⟨_,rfl⟩
 rw[ac]at L BZ ⊢
 clear ac
 have hz:W0.1.size=w.1.size+4:=ud BZ
 refine yG (F:=Fence.wide) (n:=7) rfl (by omega) (gf:=gf) (lb:=lb) rfl trivial (ud ae) (ud aa (w.1.size+6) (by omega)) (by omega) (fun h k=>h.trans k) (fun W o o' h hc hw=>KX.putObj o' (by omega) (by omega) h hw) (ud L).i5 (fun _=>rfl)
  (fun q W=>FT (.func (.func of) #[] oc) w ((jE i q).map a) W)
  (fun _ _ _=>False)
  (fun s A B row hs hg hr=>FT.own (by omega) hs hg hr)
  (fun _ _ _ _ _ hs _ _=>hs)
  (ud L)
  (fun x a' W=>∃H,w.1.size+4<=H/\W.1[H]?=U (.cells #[.iface (a x).jt (.agg #[I J (a x).s.t,I J (a x).s.se,I J (a x).s.we]),I J (a x).si,I J (a x).tc,I J (a x).rest] 162 (0,0))/\a'={tmps:=#[.func (.func gf) #[] lb,.func (.func of) #[] oc,undef,.pointer (U ⟨w.1.size,0,E⟩),.pointer (U ⟨w.1.size+1,0,E⟩),.bool false,.pointer (U ⟨w.1.size+2,0,E⟩),.pointer (U ⟨w.1.size+3,0,E⟩),.pointer (U ⟨H,0,E⟩),.func (.func gf) #[] lb,.agg #[.iface (a x).jt (.agg #[I J (a x).s.t,I J (a x).s.se,I J (a x).s.we]),I J (a x).si,I J (a x).tc,I J (a x).rest],undef,undef,undef,undef,undef,undef,undef,undef,undef,undef,undef,undef],defers:=[]})
  (fun x a' s A B row hs hg hr=>by
   obtain⟨H,h1,h2,h3⟩:=hs
   exact⟨H,h1,zG h2 hg (fun r e=>(hr r e).2),h3⟩) ?assign ?body ?done ?stop
 case assign=>
  rintro l q x W K b hK
  have ai:=b.i5.size
  have ao:=zd b.i4
  have HK:=ze hK
  have u:=ze b
  clear hK b
  gi_wp2
  have a8:=(P W.1.size W).alloc (G _) (.cells #[.iface (a x).jt (.agg #[I J (a x).s.t,I J (a x).s.se,I J (a x).s.we]),I J (a x).si,I J (a x).tc,I J (a x).rest] 162)
  refine ud HK _ _ (zu a8) (KX.of_below a8) ((ud u).later a8) ⟨W.1.size,by omega,zo _ _,rfl⟩
 case body=>
  rintro l q x a' W hl ⟨r,hr⟩ b ⟨H,an,hx,rfl⟩ ap
  have ai:=b.i5.size
  have a2:=zd hx
  have ah:=zd b.i4
  obtain⟨c1,-⟩:=zc b.i1
  obtain⟨x0,x1,x2,x3,-⟩:=zc hx
  have ak:¬H=w.1.size+2:=by omega
  have al:¬H=w.1.size+3:=by omega
  have u:=ze b
  have HX:=ze hx
  have v:=zcT i q x
  cases hF:jE i q with
  |none=>
   rw[hF]at b u v
   obtain⟨g0,g1,g2,g3,-⟩:=zc b.i3
   have ab:=fun j=>zD (show W.1[w.1.size+2]?=U (.cells #[.nilIface,I J 0,I J 0,I J 0] 162 (0,0))from b.i3) j
   have ag:=fun j=>zD b.i4 j
   obtain⟨c4,-⟩:=zc b.i4
   have M:Hid ((jE i (q++[x])).map a=U (a x)):=by show _=_;rw[v];rfl
   clear b hx hF v
   generalize a x=X at*
   gi_wp2
   refine⟨fun _ h=>(by cases h),?_⟩
   gi_wp2
   all_goals(try go_bits)
   exact ziF hn (by omega) (ud u) (ud M) (P _ _)
  |some f=>
   rw[hF]at b u v
   simp only[Option.map_some]at b u
   have a3:W.1[w.1.size+2]?=U (.cells #[.iface (a f).jt (.agg #[I J (a f).s.t,I J (a f).s.se,I J (a f).s.we]),I J (a f).si,I J (a f).tc,I J (a f).rest] 162 (0,0)):=b.i3
   obtain⟨g0,g1,g2,g3,-⟩:=zc a3
   obtain⟨c4,-⟩:=zc b.i4
   have HC:=ze (ud af x f W b.i5)
   have a4:=zd b.i3
   have aj:=ze (ud a9)
   have am:=ud a9
   clear b hx hF
   by_cases ho:i x f<0
   ·have M:Hid ((jE i (q++[x])).map a=U (a x)):=by show _=_;rw[v];simp[Qu,ho]
    clear v
    generalize i x f=O at*
    generalize a x=X at*
    generalize a f=Y at*
    gi_wp2
    refine⟨trivial,(CallsIn.inRound l (callsIn_wide.2 (ud HC))).mono ?_⟩
    rintro e w' ⟨rfl,d⟩
    have d0:=(d.cell (p:=⟨H,0,E⟩) a2).trans x0;have d1:=(d.cell (p:=⟨H,1,E⟩) a2).trans x1;have d2:=(d.cell (p:=⟨H,2,E⟩) a2).trans x2;have d3:=(d.cell (p:=⟨H,3,E⟩) a2).trans x3;have e0:=(d.cell (p:=⟨w.1.size+2,0,E⟩) a4).trans g0;have e1:=(d.cell (p:=⟨w.1.size+2,1,E⟩) a4).trans g1;have e2:=(d.cell (p:=⟨w.1.size+2,2,E⟩) a4).trans g2;have e3:=(d.cell (p:=⟨w.1.size+2,3,E⟩) a4).trans g3;have e4:=(d.cell (p:=⟨w.1.size+3,0,E⟩) ah).trans c4;have ab:=fun j=>zD (show w'.1[w.1.size+2]?=U (.cells #[.iface Y.jt (.agg #[I J Y.s.t,I J Y.s.se,I J Y.s.we]),I J Y.si,I J Y.tc,I J Y.rest] 162 (0,0))from((ud u).later d).i3) j;have ag:=fun j=>zD ((ud u).later d).i4 j;have a7:=ze d;clear d
    gi_wp2
    all_goals(try go_bits)
    exact ziF hn (by omega) (ud u) (ud M) (ud a7)
   ·have M:Hid ((jE i (q++[x])).map a=U (a f)):=by show _=_;rw[v];simp[Qu,ho]
    have aq:decide (i x f<0)=false:=by simpa using ho
    clear v
    generalize i x f=O at*
    generalize a x=X at*
    generalize a f=Y at*
    gi_wp2
    refine⟨trivial,(CallsIn.inRound l (callsIn_wide.2 (ud HC))).mono ?_⟩
    rintro e w' ⟨rfl,d⟩
    have a7:=ze d
    clear d
    gi_wp2
    all_goals(try go_bits)
    exact zjm (ud u) (ud M) (ud a7)
 case done=>
  rintro D xs W hD hS b hK
  have u:=ze b
  have HK:=ze hK
  have HS:=ze hS
  have m:D≠w.1.size+1:=by omega
  obtain⟨r0,r1,r2,r3,-⟩:=zc b.i2
  have ab:=fun j=>zD (show W.1[w.1.size+1]?=U (.cells #[.nilIface,I J 0,I J 0,I J 0] 162 (0,0))from b.i2) j
  cases C:jE i xs with
  |none=>
   rw[C]at b u
   obtain⟨g0,g1,g2,g3,-⟩:=zc b.i3
   obtain⟨c4,-⟩:=zc b.i4
   have a1:=ze C
   clear b hK hS C
   gi_wp2
   gi_region
   gi_wp2
   have a0:=zgo (show W.1[w.1.size+1]?=U (.cells #[.nilIface,I J 0,I J 0,I J 0] 162 (0,0))from(ud u).i2) .nilIface (I J 0) (I J 0) (I J 0)
   have Q:(((((W.setCell ⟨w.1.size+1,0,E⟩ .nilIface).setCell ⟨w.1.size+1,1,E⟩ (I J 0)).setCell ⟨w.1.size+1,2,E⟩ (I J 0)).setCell ⟨w.1.size+1,3,E⟩ (I J 0)).drew).1[D]?=U (.deferred (U [])):=by
    show((((W.setCell ⟨w.1.size+1,0,E⟩ .nilIface).setCell ⟨w.1.size+1,1,E⟩ (I J 0)).setCell ⟨w.1.size+1,2,E⟩ (I J 0)).setCell ⟨w.1.size+1,3,E⟩ (I J 0)).1[D]?=_
    rw[zT m,zT m,zT m,zT m];exact ud HK
   have V:=((ud u).i5).trans (QJ (w:=W) (B:=w.1.size) (g:=w.1.size+1) (Nat.le_succ _) .nilIface (I J 0) (I J 0) (I J 0))
   refine⟨by simp,.inl ⟨_,_,rfl,run_takeDeferred Q,?_⟩⟩
   refine⟨_,zj results85 _ _ (w.1.size+1) _ _ _ _ _ rfl rfl ((World.putObj_heap_other (fun e=>m e.symm)).trans a0) underlying162 rfl (by kernel_rfl),xs,ud HS,?_,xD V (G _) (by omega) Q _⟩
   rw[ud a1];rfl
  |some f=>
   rw[C]at b u
   simp only[Option.map_some]at b u
   have a3:W.1[w.1.size+2]?=U (.cells #[.iface (a f).jt (.agg #[I J (a f).s.t,I J (a f).s.se,I J (a f).s.we]),I J (a f).si,I J (a f).tc,I J (a f).rest] 162 (0,0)):=b.i3
   obtain⟨g0,g1,g2,g3,-⟩:=zc a3
   obtain⟨c4,-⟩:=zc b.i4
   have a1:Hid ((jE i xs).map a=U (a f)/\(jE i xs).isSome=true):=by show _/\_;rw[C];exact⟨rfl,rfl⟩
   clear b hK hS C a3
   generalize a f=y at*
   gi_wp2
   gi_region
   gi_wp2
   have a0:=zgo (show W.1[w.1.size+1]?=U (.cells #[.nilIface,I J 0,I J 0,I J 0] 162 (0,0))from(ud u).i2) (.iface y.jt (.agg #[I J y.s.t,I J y.s.se,I J y.s.we])) (I J y.si) (I J y.tc) (I J y.rest)
   have Q:((((W.setCell ⟨w.1.size+1,0,E⟩ (.iface y.jt (.agg #[I J y.s.t,I J y.s.se,I J y.s.we]))).setCell ⟨w.1.size+1,1,E⟩ (I J y.si)).setCell ⟨w.1.size+1,2,E⟩ (I J y.tc)).setCell ⟨w.1.size+1,3,E⟩ (I J y.rest)).drew.1[D]?=U (.deferred (U [])):=by
    show((((W.setCell ⟨w.1.size+1,0,E⟩ (.iface y.jt (.agg #[I J y.s.t,I J y.s.se,I J y.s.we]))).setCell ⟨w.1.size+1,1,E⟩ (I J y.si)).setCell ⟨w.1.size+1,2,E⟩ (I J y.tc)).setCell ⟨w.1.size+1,3,E⟩ (I J y.rest)).1[D]?=_
    rw[zT m,zT m,zT m,zT m];exact ud HK
   have V:=((ud u).i5).trans (QJ (w:=W) (B:=w.1.size) (g:=w.1.size+1) (Nat.le_succ _) (.iface y.jt (.agg #[I J y.s.t,I J y.s.se,I J y.s.we])) (I J y.si) (I J y.tc) (I J y.rest))
   refine⟨by simp,.inl ⟨_,_,rfl,run_takeDeferred Q,?_⟩⟩
   refine⟨_,zj results85 _ _ (w.1.size+1) _ _ _ _ _ rfl rfl ((World.putObj_heap_other (fun e=>m e.symm)).trans a0) underlying162 rfl (by kernel_rfl),xs,ud HS,?_,xD V (G _) (by omega) Q _⟩
   rw[(ud a1).1,(ud a1).2];rfl
 case stop=>
  rintro D c q W _ _ h _
  exact h.elim
structure Ids where
 x:Nat
 s:Nat
 lb:Nat
 gb:Nat
 b:Nat
 tb:Nat
 qb:Nat
 tv:T
structure zy(w:Z)(i:Ids)(c:Cf)(ep:Int)(m:MS):Prop where
 head:w.1[i.x]?=U (.cells #[I J c.s,I J c.le,I J c.la,I J c.wi,I J c.ke,I J c.qu,i.tv,I J ep,I J m.now,.pointer (U ⟨i.s,0,E⟩),.pointer (U ⟨i.b,0,E⟩)] 84 (0,0))
 set:xJ w i.s c i.tv i.lb i.gb m.Gl m.L
 board:zM w i.b c i.tv ep m.num i.tb i.qb m.TL m.QL
 a1:i.lb≠i.tb
 a2:i.lb≠i.qb
 a3:i.gb≠i.tb
 a4:i.gb≠i.qb
def zU(i:Ids)(k:Nat):Prop:=k=i.x\/ZI i.s i.tv i.lb i.gb k\/ZU i.b i.tb i.qb k
theorem qg{α β:Type}{M:MK α β}{w:Z}{b:Nat}{L:List (α×β)}(h:xh M w b L){k:Nat}{cs:Array T}{t:TypeId}{c:Nat×Nat}(d:w.1[k]?=U (.cells cs t c)):b≠k:=fun e=>by
 obtain⟨g,f,a,_⟩:=h;rw[e,d]at a;cases a
section
variable {w:Z} {i:Ids} {c:Cf} {ep:Int} {m:MS}
theorem zy.lt(h:zy w i c ep m):i.x<w.1.size:=zd h.head
theorem zy.kept{f:Nat->Prop}{w':Z}(h:zy w i c ep m)(b:zk f w w')(hn:∀k,zU i k->¬f k):zy w' i c ep m:=
 ⟨b.heap h.head (hn i.x (.inl rfl)),h.set.kept b (fun k a=>hn k (.inr (.inl a))),h.board.kept b (fun k a=>hn k (.inr (.inr a))),h.a1,h.a2,h.a3,h.a4⟩
theorem zy.later{w':Z}(h:zy w i c ep m)(a:R w.1.size w w'):zy w' i c ep m:=h.kept (f:=fun _=>False) (zk.of_below a) (fun _ _ b=>b)
theorem zy.foot_lt(h:zy w i c ep m):∀k,zU i k->k<w.1.size:=fun k a=>by
 rcases a with rfl|a|a
 ·exact h.lt
 ·exact h.set.foot_lt k a
 ·exact h.board.foot_lt k a
theorem zy.cells(h:zy w i c ep m):w.cell? ⟨i.x,0,E⟩=U (I J c.s)/\w.cell? ⟨i.x,1,E⟩=U (I J c.le)/\w.cell? ⟨i.x,2,E⟩=U (I J c.la)/\w.cell? ⟨i.x,3,E⟩=U (I J c.wi)/\w.cell? ⟨i.x,4,E⟩=U (I J c.ke)/\w.cell? ⟨i.x,5,E⟩=U (I J c.qu)/\w.cell? ⟨i.x,6,E⟩=U i.tv/\w.cell? ⟨i.x,7,E⟩=U (I J ep)/\w.cell? ⟨i.x,8,E⟩=U (I J m.now)/\w.cell? ⟨i.x,9,E⟩=U (.pointer (U ⟨i.s,0,E⟩))/\w.cell? ⟨i.x,10,E⟩=U (.pointer (U ⟨i.b,0,E⟩)):=by
 refine⟨?_,?_,?_,?_,?_,?_,?_,?_,?_,?_,?_⟩<;>rw[zN h.head]<;>rfl
theorem zy.x_set(h:zy w i c ep m):∀k,ZI i.s i.tv i.lb i.gb k->k≠i.x:=fun k b e=>by
 subst e
 have a:=h.head
 rcases b with e|b|e|e
 ·rw[e,h.set.head]at a;cases a
 ·obtain⟨d,f⟩:=zO h.set.trow b
  rw[f]at a;cases a
 ·exact qg (yW.1 h.set.live) a e.symm
 ·exact qg h.set.gone a e.symm
theorem zy.x_board(h:zy w i c ep m):∀k,ZU i.b i.tb i.qb k->k≠i.x:=fun k f e=>by
 subst e
 have a:=h.head
 rcases f with e|e|e
 ·rw[e,h.board.head]at a;injection a with a;injection a with g d;exact absurd d (by decide)
 ·exact qg h.board.tg a e.symm
 ·exact qg h.board.leases a e.symm
theorem zy.parts(h:zy w i c ep m):∀k,ZI i.s i.tv i.lb i.gb k->¬ZU i.b i.tb i.qb k:=fun k l n=>by
 rcases n with e|e|e
 ·have a:=h.board.head
  rw[<-e]at a
  rcases l with e|j|e|e
  ·rw[e,h.set.head]at a;cases a
  ·obtain⟨d,g⟩:=zO h.set.trow j
   rw[g]at a;cases a
  ·exact qg (yW.1 h.set.live) a e.symm
  ·exact qg h.set.gone a e.symm
 ·rcases l with f|j|f|f
  ·exact qg h.board.tg h.set.head (by omega)
  ·obtain⟨d,g⟩:=zO h.set.trow j
   exact qg h.board.tg g e.symm
  ·exact h.a1 (by omega)
  ·exact h.a3 (by omega)
 ·rcases l with f|j|f|f
  ·exact qg h.board.leases h.set.head (by omega)
  ·obtain⟨d,g⟩:=zO h.set.trow j
   exact qg h.board.leases g e.symm
  ·exact h.a2 (by omega)
  ·exact h.a4 (by omega)
theorem zy.setNow(h:zy w i c ep m)(n:Int):zy (w.setCell ⟨i.x,8,E⟩ (I J n)) i c ep {m with now:=n}:=by
 have b:zk (fun k=>k=i.x) w (w.setCell ⟨i.x,8,E⟩ (I J n)):=zn (zk.refl _ _) rfl
 exact⟨xm (i:=8) h.head (I J n),h.set.kept b (fun k a=>h.x_set k a),h.board.kept b (fun k a=>h.x_board k a),h.a1,h.a2,h.a3,h.a4⟩
theorem zy.putBoard{w':Z}(h:zy w i c ep m){num:Int}{TL:List (Jk×Tsk)}{QL:List (Tok×Lse)}(d:zM w' i.b c i.tv ep num i.tb i.qb TL QL)(a:zk (ZU i.b i.tb i.qb) w w'):zy w' i c ep {m with num:=num,TL:=TL,QL:=QL}:=
 ⟨a.heap h.head (fun e=>h.x_board _ e rfl),h.set.kept a (fun k f=>h.parts k f),d,h.a1,h.a2,h.a3,h.a4⟩
theorem zy.putSet{w':Z}(h:zy w i c ep m){L:LV}{Gl:List (Sg×Unit)}(b:xJ w' i.s c i.tv i.lb i.gb Gl L)(a:zk (ZI i.s i.tv i.lb i.gb) w w'):zy w' i c ep {m with L:=L,Gl:=Gl}:=
 ⟨a.heap h.head (fun e=>h.x_set _ e rfl),b,h.board.kept a (fun k d e=>h.parts k e d),h.a1,h.a2,h.a3,h.a4⟩
theorem zy.ts(h:zy w i c ep m):∃a cap,i.tv=.slice a c.n cap/\TS w a c.n c.F c.W c.K:=by
 obtain⟨a,cap,e⟩:=zq h.set.trow
 exact⟨a,cap,e,TS.of_owns (e▸h.set.trow)⟩
end
end Go.Proofs.YtpbimdkclnekeaaGreat
