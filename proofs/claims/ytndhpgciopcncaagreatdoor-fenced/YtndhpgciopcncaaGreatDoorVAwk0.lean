import Derived.Test.YtndhpgciopcncaaGreatDoorVMod2
import Derived.Test.YtndhpgciopcncaaGreatDoorVJn2
open Go.Value renaming int → I
open Go.IntKind renaming i64 → J
open Option renaming none → E
open Option renaming some → U
open Nat renaming le_refl → Z
open Go.RowKit.Below renaming refl → G
set_option linter.unusedVariables false
set_option maxRecDepth 100000
set_option maxHeartbeats 4000000
open Go.Proofs.Tryz
namespace Go.Proofs.YtndhpgciopcncaaGreatDoor
open Go.ChangeMaps (setBlock)
open Go.RowKit Go.Maps Go.Shelf
theorem KH{c:Cf}(g:c.ok){L:LV}{k:Sg}(i:inR c k):QM c L k=true↔∀x∈jp c k,(stL L x).st≠2:=by
 have b:=Zg g i
 unfold QM
 constructor
 ·intro h x j e
  have f:((kH c k).filter (fun x=>(stL L x.1).st==2)).length=0:=by
   have:=of_decide_eq_true (show decide ((((kH c k).filter (fun x=>(stL L x.1).st==2)).length:Int)=0)=true from by simpa using h)
   omega
  obtain⟨y,a,d⟩:=List.mem_map.1 ((b x).2 j)
  have:y∈(kH c k).filter (fun x=>(stL L x.1).st==2):=List.mem_filter.2 ⟨a,by rw[d];simpa using e⟩
  rw[List.eq_nil_of_length_eq_zero f]at this;simp at this
 ·intro h
  have:(kH c k).filter (fun x=>(stL L x.1).st==2)=[]:=List.filter_eq_nil_iff.2 (fun y a e=>h y.1 ((b y.1).1 (List.mem_map.2 ⟨y,a,rfl⟩)) (by simpa using e))
  rw[this];rfl
theorem JR{n:Int}{T:List (Jk×Tsk)}{Q:List (Tok×Lse)}(h:VR n [] [] T Q):T=[]/\Q=[]:=by
 induction h with
 |nil=>exact⟨rfl,rfl⟩
 |step _ a _ _ b=>rw[b.2]at a;simp[zY]at a
theorem KD{α β:Type}(f:β->α->β)(a:α)(b b':β)(g:f b a=b')(i:f b' a=b'):∀(l:List α),(∀x∈l,x=a)->a∈l->l.foldl f b=b'
 |[],_,h=>by cases h
 |x::l,d,_=>by
  have e:=d x (by simp)
  subst e
  show l.foldl f (f b x)=b'
  rw[g]
  have:∀(l:List α),(∀y∈l,y=x)->l.foldl f b'=b':=fun l=>by
   induction l with
   |nil=>intro _;rfl
   |cons y l k=>intro c;have e:=c y (by simp);subst e;show l.foldl f (f b' y)=b';rw[i];exact k (fun z j=>c z (by simp[j]))
  exact this l (fun y c=>d y (by simp[c]))
theorem zdx{α:Type}{l:List α}(h:∀x,x∉l):l=[]:=by
 cases l with
 |nil=>rfl
 |cons a l=>exact absurd (by simp) (h a)
def awC:Cf:=⟨1,9,0,2,4,9,1,fun _=> -1,fun _=>2,fun _=>100⟩
theorem Ko:xV awC.s awC.le awC.la awC.wi awC.ke awC.qu awC.n awC.F awC.W awC.K=true:=by decide
theorem jx:awC.ok:=Zq Ko
theorem zeY:awC.fits:=⟨by decide,rfl,⟨1,by omega,rfl⟩,fun i a=>⟨by show(-1:Int)<= -1;omega,by show(-1:Int)<((1:Nat):Int);omega⟩,fun i a=>⟨1,by omega,rfl⟩⟩
def awR:Sg:=⟨-1,1,0⟩
def awT:Sg:=⟨0,1,0⟩
def zjX:Cl:=⟨1,7,7,7⟩
def zcj:LV:=[(awR,⟨1,zjX⟩),(awT,⟨2,qc⟩)]
def zeN:LV:=[(awR,⟨1,zjX⟩),(awT,⟨3,zjX⟩)]
def zjm:LV:=[(awT,⟨3,zjX⟩)]
theorem zcm:ya zcj awT ⟨3,xz (xp awC zcj 1 0 0)⟩=zeN:=by kernel_rfl
theorem QG:inR awC awR:=by unfold inR Sg.wf xg awR awC;dsimp only;omega
theorem Kr:inR awC awT:=by unfold inR Sg.wf xg awT awC;dsimp only;omega
theorem zjn:jp awC awR=[awT]:=by rfl
theorem zkl:jp awC awT=[]:=by rfl
def zjY:List (Jk×Tsk):=[(⟨1,awT⟩,⟨true,awT,6,0,0⟩)]
def zjZ:List (Jk×Tsk):=[(⟨2,awR⟩,⟨false,awR,6,0,0⟩)]
def zkh:MS:=⟨0,zcj,[],0,[],[]⟩
def zki:MS:=⟨6,zcj,[],0,zjY,[]⟩
def awQ1:List (Tok×Lse):=[(⟨1,1⟩,⟨1,awT,0,15⟩)]
def zje:MS:=⟨6,zcj,[],1,zjY,awQ1⟩
def zkj:MS:=⟨6,zeN,[],1,zjZ,[]⟩
def awQ2:List (Tok×Lse):=[(⟨1,2⟩,⟨2,awR,0,15⟩)]
def zkk:MS:=⟨6,zeN,[],2,zjZ,awQ2⟩
theorem zfb{d:List (Jk×Tsk)}(h:yd awC ⟨6,zcj,[],0,[],[]⟩ d):d=zjY:=by
 obtain⟨i,c,g,q,j,p,rfl⟩:=h.to
 dsimp only at*
 have r:zE i=[]:=zdx (fun x f=>by
  obtain⟨k,a,e,f⟩:=(q x).1 f
  simp[zcj,zt]at a
  rcases a with rfl|rfl
  ·exact absurd e (by decide)
  ·rw[zkl]at f;cases f)
 have l:∀k,zY i k=E:=fun k=>qa.2 (by rw[r];simp)
 have m:∀s∈c,s=awT:=fun s e=>by
  obtain⟨a,b⟩:=(j s).1 e
  simp[zcj,zt]at a
  rcases a with rfl|rfl
  ·unfold jY at b;rw[l]at b;exact absurd b (by decide)
  ·rfl
 have n:awT∈c:=(j awT).2 ⟨by simp[zcj,zt],by unfold jY;rw[l];decide⟩
 have o:g=[]:=zdx (fun s e=>by
  obtain⟨a,b⟩:=(p s).1 e
  simp[zcj,zt]at a
  unfold ju at b
  simp only[Bool.and_eq_true]at b
  rcases a with rfl|rfl
  ·exact(KH jx QG).1 b.2 awT (by rw[zjn];simp) (by decide)
  ·exact absurd b.1.1 (by decide))
 rw[o]
 exact KD (vn 6) awT [] zjY (by rfl) (by rfl) c m n
theorem zfc{num:Int}{c:List (Jk×Tsk)}(h:yd awC ⟨6,zeN,[],num,[],[]⟩ c):c=zjZ:=by
 obtain⟨n,g,b,o,m,i,rfl⟩:=h.to
 dsimp only at*
 have j:g=[]:=zdx (fun s e=>by
  obtain⟨d,a⟩:=(m s).1 e
  simp[zeN,zt]at d
  unfold jY at a
  simp only[Bool.and_eq_true]at a
  rcases d with rfl|rfl
  ·exact absurd a.1.2 (by decide)
  ·exact absurd a.1.2 (by decide))
 have k:∀s∈b,s=awR:=fun s e=>by
  obtain⟨d,a⟩:=(i s).1 e
  simp[zeN,zt]at d
  unfold ju at a
  simp only[Bool.and_eq_true]at a
  rcases d with rfl|rfl
  ·rfl
  ·exact absurd a.1.2 (by decide)
 have l:awR∈b:=(i awR).2 ⟨by simp[zeN,zt],by
  unfold ju
  simp only[Bool.and_eq_true]
  refine⟨⟨by decide,by decide⟩,(KH jx QG).2 (fun x f=>?_)⟩
  rw[zjn]at f
  simp at f
  subst f
  decide⟩
 rw[j]
 exact KD (vQ 6) awR [] zjZ (by rfl) (by rfl) b k l
theorem zhr(w:World)(o:Obj)(c:Cf)(tv:Value)(ep:Int):
  zy ((((w.alloc o).alloc (.map #[] 0)).alloc (.map #[] 0)).alloc (.cells #[I J c.s,I J c.le,I J c.la,I J c.wi,I J c.ke,I J c.qu,tv,I J ep,I J 0,.map (U (w.1.size+1)),.map (U (w.1.size+1+1))] 171)) (w.1.size+1+1+1) c tv ep 0 (w.1.size+1) (w.1.size+1+1) [] []:=by
 have a:=zI w o
 have b:=zI (w.alloc o) (.map #[] 0)
 have z3:=zI ((w.alloc o).alloc (.map #[] 0)) (.map #[] 0)
 refine⟨?_,?_,?_,by omega⟩
 ·have h:=zk (((w.alloc o).alloc (.map #[] 0)).alloc (.map #[] 0)) (.cells #[I J c.s,I J c.le,I J c.la,I J c.wi,I J c.ke,I J c.qu,tv,I J ep,I J 0,.map (U (w.1.size+1)),.map (U (w.1.size+1+1))] 171)
  rw[z3,b,a]at h
  exact h
 ·have h:=zW.made (M:=xL) (w.alloc o)
  rw[a]at h
  exact(h.later ((G _ _).alloc (Z _) _)).later ((G _ _).alloc (Z _) _)
 ·have h:=zW.made (M:=xu) ((w.alloc o).alloc (.map #[] 0))
  rw[b,a]at h
  exact h.later ((G _ _).alloc (Z _) _)
theorem zfd(c:Cf)(a:Option Addr)(cap:Nat)(ep:Int)(w:World):
  Calls prog 69 #[.agg #[I J c.s,I J c.le,I J c.la,I J c.wi,I J c.ke,I J c.qu,.slice a c.n cap],I J ep] w fun e w'=>∃b tb qb,e=.returned (.pointer (U ⟨b,0,E⟩))/\w.1.size<=b/\w.1.size<=tb/\w.1.size<=qb/\zy w' b c (.slice a c.n cap) ep 0 tb qb [] []/\Below w.1.size w w':=by
 have h:∀W:World,(Instr.makeMap 169 E).run prog W=.ok (.map (U W.1.size)) (W.alloc (.map #[] 0)):=fun W=>by kernel_rfl
 have i:∀W:World,(Instr.makeMap 168 E).run prog W=.ok (.map (U W.1.size)) (W.alloc (.map #[] 0)):=fun W=>by kernel_rfl
 go_enter func69,ntmps69
 go_wp2_with fail
 go_ret
 refine⟨w.1.size+1+1+1,w.1.size+1,w.1.size+1+1,rfl,by omega,by omega,by omega,zhr w _ c _ ep,?_⟩
 have d:Below w.1.size w (w.alloc (.cells #[I J c.s,I J c.le,I J c.la,I J c.wi,I J c.ke,I J c.qu,.slice a c.n cap] 89)):=(G _ _).alloc (Z _) _
 have f:=d.alloc d.size (.map #[] 0)
 have g:=f.alloc f.size (.map #[] 0)
 exact g.alloc g.size _
attribute [local go_sem] Oper.semAt_some
def Xg{α:Type}(a:α->α->Int)(o:Option α)(x:α):Option α:=match o with
 |none=>U x
 |some f=>if a x f<0 then U x else U f
def vL{α:Type}(a:α->α->Int)(l:List α):Option α:=l.foldl (Xg a) E
theorem zaP{α:Type}(a:α->α->Int)(l:List α)(x:α):vL a (l++[x])=Xg a (vL a l) x:=by simp[vL]
theorem ZE{α:Type}(a:α->α->Int):∀(l:List α) (f:α),∃g,l.foldl (Xg a) (U f)=U g/\(g=f\/g∈l)
 |[],f=>⟨f,rfl,.inl rfl⟩
 |x::l,f=>by
  simp only[List.foldl_cons]
  by_cases h:a x f<0
  ·obtain⟨g,c,b⟩:=ZE a l x
   refine⟨g,by simp only[Xg,if_pos h];exact c,.inr ?_⟩
   rcases b with rfl|b<;>simp[*]
  ·obtain⟨g,c,b⟩:=ZE a l f
   refine⟨g,by simp only[Xg,if_neg h];exact c,?_⟩
   rcases b with rfl|b
   ·exact .inl rfl
   ·exact .inr (by simp[b])
theorem zcU{α:Type}(a:α->α->Int):∀l:List α,(l=[]/\vL a l=E)\/∃g∈l,vL a l=U g
 |[]=> .inl ⟨rfl,rfl⟩
 |x::l=> .inr (by
  obtain⟨g,c,b⟩:=ZE a l x
  refine⟨g,?_,c⟩
  rcases b with rfl|b<;>simp[*])
def vX(o:Option Tsk):Obj:=match o with
 |none=> .cells #[.nilIface,I J 0,I J 0,I J 0] 177 (0,0)
 |some x=> .cells #[.iface x.jt (.agg #[I J x.s.t,I J x.s.sr,I J x.s.wa]),I J x.se,I J x.ti,I J x.rest] 177 (0,0)
structure FT(ov:Value)(w:World)(o:Option Tsk)(W:World):Prop where
 i1:W.1[w.1.size]?=U (.cells #[ov] 182 (0,0))
 i2:W.1[w.1.size+1]?=U (vX E)
 i3:W.1[w.1.size+2]?=U (vX o)
 i4:W.1[w.1.size+3]?=U (.cells #[.bool o.isSome] 4 (0,0))
 i5:Below w.1.size w W
theorem FT.own{g:Value}{w A B:World}{o:Option Tsk}{d:Option Nat}{N:Nat}(h:w.1.size<=N)(c:FT g w o A)(a:A.grownBy B d)(b:∀r,d=U r->N<=r/\∃o:Obj,A.1[r]?=U o/\o.isCells=false):FT g w o B:=by
 refine⟨zr c.i1 a (fun r e=>(b r e).2),zr (by exact c.i2) a (fun r e=>(b r e).2),?_,zr c.i4 a (fun r e=>(b r e).2),c.i5.grown a c.i5.size (fun k e=>by have:=(b k e).1;omega)⟩
 have f:=c.i3
 cases o with
 |none=>exact zr f a (fun r e=>(b r e).2)
 |some x=>exact zr f a (fun r e=>(b r e).2)
theorem FT.later{b:Value}{w A B:World}{o:Option Tsk}(h:FT b w o A)(a:Below A.1.size A B):FT b w o B:=
 ⟨(a.block _ (za h.i1)).trans h.i1,(a.block _ (za h.i2)).trans h.i2,(a.block _ (za h.i3)).trans h.i3,(a.block _ (za h.i4)).trans h.i4,h.i5.trans (a.mono h.i5.size)⟩
theorem zhJ{c:Value}{ex:Nat->Prop}{n m:Nat}{w W X:World}{o b:Option Tsk}{N:Nat}(h:FT c w o W)(d:b=o)(a:Below W.1.size W X):KeepsFrom N W X/\KX ex n m W X/\FT c w b X:=by
 subst d
 exact⟨zi a,KX.of_below a,h.later a⟩
theorem zgS{u:Value}{ex:Nat->Prop}{n m:Nat}{w W X:World}{o l:Option Tsk}{x:Tsk}{N:Nat}(hn:n<=w.1.size)(K:w.1.size+4<=m)(h:FT u w o W)(j:l=U x)(g:Below W.1.size W X):
  KeepsFrom N W (((((X.setCell ⟨w.1.size+2,0,E⟩ (.iface x.jt (.agg #[I J x.s.t,I J x.s.sr,I J x.s.wa]))).setCell ⟨w.1.size+2,1,E⟩ (I J x.se)).setCell ⟨w.1.size+2,2,E⟩ (I J x.ti)).setCell ⟨w.1.size+2,3,E⟩ (I J x.rest)).setCell ⟨w.1.size+3,0,E⟩ (.bool true))/\KX ex n m W (((((X.setCell ⟨w.1.size+2,0,E⟩ (.iface x.jt (.agg #[I J x.s.t,I J x.s.sr,I J x.s.wa]))).setCell ⟨w.1.size+2,1,E⟩ (I J x.se)).setCell ⟨w.1.size+2,2,E⟩ (I J x.ti)).setCell ⟨w.1.size+2,3,E⟩ (I J x.rest)).setCell ⟨w.1.size+3,0,E⟩ (.bool true))/\FT u w l (((((X.setCell ⟨w.1.size+2,0,E⟩ (.iface x.jt (.agg #[I J x.s.t,I J x.s.sr,I J x.s.wa]))).setCell ⟨w.1.size+2,1,E⟩ (I J x.se)).setCell ⟨w.1.size+2,2,E⟩ (I J x.ti)).setCell ⟨w.1.size+2,3,E⟩ (I J x.rest)).setCell ⟨w.1.size+3,0,E⟩ (.bool true)):=by
 subst j
 have d:=h.later g
 have c:∃p q r s,X.1[w.1.size+2]?=U (.cells #[p,q,r,s] 177 (0,0)):=by
  have:=d.i3
  cases o with
  |none=>exact⟨_,_,_,_,this⟩
  |some y=>exact⟨_,_,_,_,this⟩
 obtain⟨p,q,r,s,c⟩:=c
 have v:=YY c (.iface x.jt (.agg #[I J x.s.t,I J x.s.sr,I J x.s.wa])) (I J x.se) (I J x.ti) (I J x.rest)
 have b:∀k,k≠w.1.size+2->((((X.setCell ⟨w.1.size+2,0,E⟩ (.iface x.jt (.agg #[I J x.s.t,I J x.s.sr,I J x.s.wa]))).setCell ⟨w.1.size+2,1,E⟩ (I J x.se)).setCell ⟨w.1.size+2,2,E⟩ (I J x.ti)).setCell ⟨w.1.size+2,3,E⟩ (I J x.rest)).1[k]?=X.1[k]?:=fun k a=>by
  rw[zD a,zD a,zD a,zD a]
 have z:=xy (i:=0) ((b (w.1.size+3) (by omega)).trans d.i4) (.bool true)
 have B:KeepsOthers W (((((X.setCell ⟨w.1.size+2,0,E⟩ (.iface x.jt (.agg #[I J x.s.t,I J x.s.sr,I J x.s.wa]))).setCell ⟨w.1.size+2,1,E⟩ (I J x.se)).setCell ⟨w.1.size+2,2,E⟩ (I J x.ti)).setCell ⟨w.1.size+2,3,E⟩ (I J x.rest)).setCell ⟨w.1.size+3,0,E⟩ (.bool true)):=(((((qN g).trans (KeepsOthers.setCell _ _ _)).trans (KeepsOthers.setCell _ _ _)).trans (KeepsOthers.setCell _ _ _)).trans (KeepsOthers.setCell _ _ _)).trans (KeepsOthers.setCell _ _ _)
 have C:Below w.1.size W (((((X.setCell ⟨w.1.size+2,0,E⟩ (.iface x.jt (.agg #[I J x.s.t,I J x.s.sr,I J x.s.wa]))).setCell ⟨w.1.size+2,1,E⟩ (I J x.se)).setCell ⟨w.1.size+2,2,E⟩ (I J x.ti)).setCell ⟨w.1.size+2,3,E⟩ (I J x.rest)).setCell ⟨w.1.size+3,0,E⟩ (.bool true)):=(((((g.mono h.i5.size).setCell (p:=⟨w.1.size+2,0,E⟩) (show w.1.size<=w.1.size+2 by omega) _).setCell (p:=⟨w.1.size+2,1,E⟩) (show w.1.size<=w.1.size+2 by omega) _).setCell (p:=⟨w.1.size+2,2,E⟩) (show w.1.size<=w.1.size+2 by omega) _).setCell (p:=⟨w.1.size+2,3,E⟩) (show w.1.size<=w.1.size+2 by omega) _).setCell (p:=⟨w.1.size+3,0,E⟩) (show w.1.size<=w.1.size+3 by omega) _
 have D:KX ex n m W (((((X.setCell ⟨w.1.size+2,0,E⟩ (.iface x.jt (.agg #[I J x.s.t,I J x.s.sr,I J x.s.wa]))).setCell ⟨w.1.size+2,1,E⟩ (I J x.se)).setCell ⟨w.1.size+2,2,E⟩ (I J x.ti)).setCell ⟨w.1.size+2,3,E⟩ (I J x.rest)).setCell ⟨w.1.size+3,0,E⟩ (.bool true)):=by
  refine(KX.of_below g).trans ?_
  refine⟨?_,fun k l L a j=>?_,fun k l A _ a=>?_⟩
  ·refine zo.mono (f:=fun k=>k=w.1.size+2\/k=w.1.size+3) ?_ (fun k _ e=> .inr (by omega))
   exact zn (zn (zn (zn (zn (zo.refl _ _) (.inl rfl)) (.inl rfl)) (.inl rfl)) (.inl rfl)) (.inr rfl)
  ·have F:k≠w.1.size+2:=fun e=>by rw[e,c]at a;cases a;cases j
   have H:k≠w.1.size+3:=fun e=>by rw[e,d.i4]at a;cases a;cases j
   rw[zD H,b k F];exact a
  ·rw[zD (by omega),b k (by omega)];exact a
 refine⟨B.from _,D,⟨?_,?_,?_,z,h.i5.trans C⟩⟩
 ·rw[zD (by omega),b _ (by omega)];exact d.i1
 ·rw[zD (by omega),b _ (by omega)];exact d.i2
 ·rw[zD (by omega)];exact v
theorem zaO{α:Type}(a:α->Tsk)(gf:Nat)(lb:Array Value)(eg:∀args w,(callFunc gf args).run prog w=.ok (.enter gf args) w)(of:Nat)(T:Array Value)(eo:∀args w,(callFunc of args).run prog w=.ok (.enter of args) w){ex:Nat->Prop}{n N:Nat}{S:List α->Prop}(i:α->α->Int)(w:World)(hn:n<=w.1.size)
  (ab:∀(x y:α) (W:World),Below w.1.size w W->Calls prog of (#[.agg #[.iface (a x).jt (.agg #[I J (a x).s.t,I J (a x).s.sr,I J (a x).s.wa]),I J (a x).se,I J (a x).ti,I J (a x).rest],.agg #[.iface (a y).jt (.agg #[I J (a y).s.t,I J (a y).s.sr,I J (a y).s.wa]),I J (a y).se,I J (a y).ti,I J (a y).rest]]++T) W fun e W'=>e=.returned (I J (i x y))/\Below W.1.size W W')
  (a4:kP ex n prog gf lb (fun x:α=>#[.agg #[.iface (a x).jt (.agg #[I J (a x).s.t,I J (a x).s.sr,I J (a x).s.wa]),I J (a x).se,I J (a x).ti,I J (a x).rest]]) S N w):
  Calls prog 100 #[.func (.func gf) #[] lb,.func (.func of) #[] T] w fun e w'=>∃xs,S xs/\e=.returned (.tuple #[Qv ((vL i xs).map a),.bool (vL i xs).isSome])/\Below w.1.size w w':=by
 have a8:=zd a4
 have ad:=zd ab
 have ac:=zd eg
 have a7:=zd eo
 obtain⟨b1,b2,b3,a3,z⟩:=zcw w (.cells #[(.func (.func of) #[] T)] 182) (vX E) (vX E)
 have L:Hid (FT (.func (.func of) #[] T) w E ((((w.alloc (.cells #[(.func (.func of) #[] T)] 182)).alloc (vX E)).alloc (vX E)).alloc (.cells #[.bool false] 4))):=
  ⟨(Below.heap_alloc _ _ _ (by rw[z];omega)).trans b1,(Below.heap_alloc _ _ _ (by rw[z];omega)).trans b2,(Below.heap_alloc _ _ _ (by rw[z];omega)).trans b3,by have:=zk (((w.alloc (.cells #[(.func (.func of) #[] T)] 182)).alloc (vX E)).alloc (vX E)) (.cells #[.bool false] 4);rw[z]at this;exact this,a3.alloc (by rw[z];omega) _⟩
 have BZ:Hid (((((w.alloc (.cells #[(.func (.func of) #[] T)] 182)).alloc (vX E)).alloc (vX E)).alloc (.cells #[.bool false] 4)).1.size=w.1.size+4):=by show _=_;rw[zI,z]
 clear a4 ab eg eo b1 b2 b3 a3 z
 unfold vX at L BZ
 dsimp only at L BZ
 refine(callsIn_wide (n:=7)).1 ?_
 refine callsIn_of_wp_marks func100 rfl trivial ?_ rfl
 simp only[ntmps100,List.size_toArray,List.length_cons,List.length_nil,Nat.reduceAdd,Nat.reduceSub,Array.replicate_succ,Array.replicate_zero,List.push_toArray,List.append_toArray,List.nil_append,List.cons_append]
 gi_wp2
 obtain⟨W0,aa⟩:∃W0,((((w.alloc (.cells #[(.func (.func of) #[] T)] 182)).alloc (.cells #[.nilIface,I J 0,I J 0,I J 0] 177)).alloc (.cells #[.nilIface,I J 0,I J 0,I J 0] 177)).alloc (.cells #[.bool false] 4))=W0:=⟨_,rfl⟩
 rw[aa]at L BZ ⊢
 clear aa
 have hz:W0.1.size=w.1.size+4:=ud BZ
 refine qv (F:=Fence.wide) (n:=7) rfl (by omega) (gf:=gf) (lb:=lb) rfl trivial (ud ac) (ud a8 (w.1.size+6) (by omega)) (by omega) (fun h k=>h.trans k) (fun W o o' h hc hw=>KX.putObj o' (by omega) (by omega) h hw) (ud L).i5 (fun _=>rfl)
  (fun q W=>FT (.func (.func of) #[] T) w ((vL i q).map a) W)
  (fun _ _ _=>False)
  (fun s A B ah hs hg hr=>FT.own (by omega) hs hg hr)
  (fun _ _ _ _ _ hs _ _=>hs)
  (ud L)
  (fun x a' W=>∃H,w.1.size+4<=H/\W.1[H]?=U (.cells #[.iface (a x).jt (.agg #[I J (a x).s.t,I J (a x).s.sr,I J (a x).s.wa]),I J (a x).se,I J (a x).ti,I J (a x).rest] 177 (0,0))/\a'={tmps:=#[.func (.func gf) #[] lb,.func (.func of) #[] T,undef,.pointer (U ⟨w.1.size,0,E⟩),.pointer (U ⟨w.1.size+1,0,E⟩),.bool false,.pointer (U ⟨w.1.size+2,0,E⟩),.pointer (U ⟨w.1.size+3,0,E⟩),.pointer (U ⟨H,0,E⟩),.func (.func gf) #[] lb,.agg #[.iface (a x).jt (.agg #[I J (a x).s.t,I J (a x).s.sr,I J (a x).s.wa]),I J (a x).se,I J (a x).ti,I J (a x).rest],undef,undef,undef,undef,undef,undef,undef,undef,undef,undef,undef,undef],defers:=[]})
  (fun x a' s A B ah hs hg hr=>by
   obtain⟨H,h1,h2,h3⟩:=hs
   exact⟨H,h1,zr h2 hg (fun r e=>(hr r e).2),h3⟩) ?assign ?body ?done ?stop
 case assign=>
  rintro l q x W K b hK
  have ag:=b.i5.size
  have an:=za b.i4
  have HK:=zd hK
  have u:=zd b
  clear hK b
  gi_wp2
  have a6:=(G W.1.size W).alloc (Z _) (.cells #[.iface (a x).jt (.agg #[I J (a x).s.t,I J (a x).s.sr,I J (a x).s.wa]),I J (a x).se,I J (a x).ti,I J (a x).rest] 177)
  refine ud HK _ _ (zi a6) (KX.of_below a6) ((ud u).later a6) ⟨W.1.size,by omega,zk _ _,rfl⟩
 case body=>
  rintro l q x a' W hl ⟨r,hr⟩ b ⟨H,am,hx,rfl⟩ ao
  have ag:=b.i5.size
  have a0:=za hx
  have af:=za b.i4
  obtain⟨c1,-⟩:=zc b.i1
  obtain⟨x0,x1,x2,x3,-⟩:=zc hx
  have aj:¬H=w.1.size+2:=by omega
  have ak:¬H=w.1.size+3:=by omega
  have u:=zd b
  have HX:=zd hx
  have v:=zaP i q x
  cases hF:vL i q with
  |none=>
   rw[hF]at b u v
   obtain⟨g0,g1,g2,g3,-⟩:=zc b.i3
   have a9:=fun j=>zC (show W.1[w.1.size+2]?=U (.cells #[.nilIface,I J 0,I J 0,I J 0] 177 (0,0))from b.i3) j
   have ae:=fun j=>zC b.i4 j
   obtain⟨c4,-⟩:=zc b.i4
   have M:Hid ((vL i (q++[x])).map a=U (a x)):=by show _=_;rw[v];rfl
   clear b hx hF v
   generalize a x=X at*
   gi_wp2
   refine⟨fun _ h=>(by cases h),?_⟩
   gi_wp2
   all_goals(try go_bits)
   exact zgS hn (by omega) (ud u) (ud M) (G _ _)
  |some f=>
   rw[hF]at b u v
   simp only[Option.map_some]at b u
   have a1:W.1[w.1.size+2]?=U (.cells #[.iface (a f).jt (.agg #[I J (a f).s.t,I J (a f).s.sr,I J (a f).s.wa]),I J (a f).se,I J (a f).ti,I J (a f).rest] 177 (0,0)):=b.i3
   obtain⟨g0,g1,g2,g3,-⟩:=zc a1
   obtain⟨c4,-⟩:=zc b.i4
   have HC:=zd (ud ad x f W b.i5)
   have a2:=za b.i3
   have ai:=zd (ud a7)
   have al:=ud a7
   clear b hx hF
   by_cases ho:i x f<0
   ·have M:Hid ((vL i (q++[x])).map a=U (a x)):=by show _=_;rw[v];simp[Xg,ho]
    clear v
    generalize i x f=O at*
    generalize a x=X at*
    generalize a f=Y at*
    gi_wp2
    refine⟨trivial,(CallsIn.inRound l (callsIn_wide.2 (ud HC))).mono ?_⟩
    rintro e w' ⟨rfl,d⟩
    have d0:=(d.cell (p:=⟨H,0,E⟩) a0).trans x0;have d1:=(d.cell (p:=⟨H,1,E⟩) a0).trans x1;have d2:=(d.cell (p:=⟨H,2,E⟩) a0).trans x2;have d3:=(d.cell (p:=⟨H,3,E⟩) a0).trans x3;have e0:=(d.cell (p:=⟨w.1.size+2,0,E⟩) a2).trans g0;have e1:=(d.cell (p:=⟨w.1.size+2,1,E⟩) a2).trans g1;have e2:=(d.cell (p:=⟨w.1.size+2,2,E⟩) a2).trans g2;have e3:=(d.cell (p:=⟨w.1.size+2,3,E⟩) a2).trans g3;have e4:=(d.cell (p:=⟨w.1.size+3,0,E⟩) af).trans c4;have a9:=fun j=>zC (show w'.1[w.1.size+2]?=U (.cells #[.iface Y.jt (.agg #[I J Y.s.t,I J Y.s.sr,I J Y.s.wa]),I J Y.se,I J Y.ti,I J Y.rest] 177 (0,0))from((ud u).later d).i3) j;have ae:=fun j=>zC ((ud u).later d).i4 j;have a5:=zd d;clear d
    gi_wp2
    all_goals(try go_bits)
    exact zgS hn (by omega) (ud u) (ud M) (ud a5)
   ·have M:Hid ((vL i (q++[x])).map a=U (a f)):=by show _=_;rw[v];simp[Xg,ho]
    have ap:decide (i x f<0)=false:=by simpa using ho
    clear v
    generalize i x f=O at*
    generalize a x=X at*
    generalize a f=Y at*
    gi_wp2
    refine⟨trivial,(CallsIn.inRound l (callsIn_wide.2 (ud HC))).mono ?_⟩
    rintro e w' ⟨rfl,d⟩
    have a5:=zd d
    clear d
    gi_wp2
    all_goals(try go_bits)
    exact zhJ (ud u) (ud M) (ud a5)
 case done=>
  rintro D xs W hD hS b hK
  have u:=zd b
  have HK:=zd hK
  have HS:=zd hS
  have m:D≠w.1.size+1:=by omega
  obtain⟨r0,r1,r2,r3,-⟩:=zc b.i2
  have a9:=fun j=>zC (show W.1[w.1.size+1]?=U (.cells #[.nilIface,I J 0,I J 0,I J 0] 177 (0,0))from b.i2) j
  cases C:vL i xs with
  |none=>
   rw[C]at b u
   obtain⟨g0,g1,g2,g3,-⟩:=zc b.i3
   obtain⟨c4,-⟩:=zc b.i4
   have V:=zd C
   clear b hK hS C
   gi_wp2
   gi_region
   gi_wp2
   have R:=zea (show W.1[w.1.size+1]?=U (.cells #[.nilIface,I J 0,I J 0,I J 0] 177 (0,0))from(ud u).i2) .nilIface (I J 0) (I J 0) (I J 0)
   have P:(((((W.setCell ⟨w.1.size+1,0,E⟩ .nilIface).setCell ⟨w.1.size+1,1,E⟩ (I J 0)).setCell ⟨w.1.size+1,2,E⟩ (I J 0)).setCell ⟨w.1.size+1,3,E⟩ (I J 0)).drew).1[D]?=U (.deferred (U [])):=by
    show((((W.setCell ⟨w.1.size+1,0,E⟩ .nilIface).setCell ⟨w.1.size+1,1,E⟩ (I J 0)).setCell ⟨w.1.size+1,2,E⟩ (I J 0)).setCell ⟨w.1.size+1,3,E⟩ (I J 0)).1[D]?=_
    rw[zD m,zD m,zD m,zD m];exact ud HK
   have Q:=((ud u).i5).trans (Xt (w:=W) (B:=w.1.size) (g:=w.1.size+1) (Nat.le_succ _) .nilIface (I J 0) (I J 0) (I J 0))
   refine⟨by simp,.inl ⟨_,_,rfl,run_takeDeferred P,?_⟩⟩
   refine⟨_,zQ results100 _ _ (w.1.size+1) _ _ _ _ _ rfl rfl ((World.putObj_heap_other (fun e=>m e.symm)).trans R) underlying177 rfl (by kernel_rfl),xs,ud HS,?_,xi Q (Z _) (by omega) P _⟩
   rw[ud V];rfl
  |some f=>
   rw[C]at b u
   simp only[Option.map_some]at b u
   have a1:W.1[w.1.size+2]?=U (.cells #[.iface (a f).jt (.agg #[I J (a f).s.t,I J (a f).s.sr,I J (a f).s.wa]),I J (a f).se,I J (a f).ti,I J (a f).rest] 177 (0,0)):=b.i3
   obtain⟨g0,g1,g2,g3,-⟩:=zc a1
   obtain⟨c4,-⟩:=zc b.i4
   have V:Hid ((vL i xs).map a=U (a f)/\(vL i xs).isSome=true):=by show _/\_;rw[C];exact⟨rfl,rfl⟩
   clear b hK hS C a1
   generalize a f=y at*
   gi_wp2
   gi_region
   gi_wp2
   have R:=zea (show W.1[w.1.size+1]?=U (.cells #[.nilIface,I J 0,I J 0,I J 0] 177 (0,0))from(ud u).i2) (.iface y.jt (.agg #[I J y.s.t,I J y.s.sr,I J y.s.wa])) (I J y.se) (I J y.ti) (I J y.rest)
   have P:((((W.setCell ⟨w.1.size+1,0,E⟩ (.iface y.jt (.agg #[I J y.s.t,I J y.s.sr,I J y.s.wa]))).setCell ⟨w.1.size+1,1,E⟩ (I J y.se)).setCell ⟨w.1.size+1,2,E⟩ (I J y.ti)).setCell ⟨w.1.size+1,3,E⟩ (I J y.rest)).drew.1[D]?=U (.deferred (U [])):=by
    show((((W.setCell ⟨w.1.size+1,0,E⟩ (.iface y.jt (.agg #[I J y.s.t,I J y.s.sr,I J y.s.wa]))).setCell ⟨w.1.size+1,1,E⟩ (I J y.se)).setCell ⟨w.1.size+1,2,E⟩ (I J y.ti)).setCell ⟨w.1.size+1,3,E⟩ (I J y.rest)).1[D]?=_
    rw[zD m,zD m,zD m,zD m];exact ud HK
   have Q:=((ud u).i5).trans (Xt (w:=W) (B:=w.1.size) (g:=w.1.size+1) (Nat.le_succ _) (.iface y.jt (.agg #[I J y.s.t,I J y.s.sr,I J y.s.wa])) (I J y.se) (I J y.ti) (I J y.rest))
   refine⟨by simp,.inl ⟨_,_,rfl,run_takeDeferred P,?_⟩⟩
   refine⟨_,zQ results100 _ _ (w.1.size+1) _ _ _ _ _ rfl rfl ((World.putObj_heap_other (fun e=>m e.symm)).trans R) underlying177 rfl (by kernel_rfl),xs,ud HS,?_,xi Q (Z _) (by omega) P _⟩
   rw[(ud V).1,(ud V).2];rfl
 case stop=>
  rintro D c q W _ _ h _
  exact h.elim
end Go.Proofs.YtndhpgciopcncaaGreatDoor
