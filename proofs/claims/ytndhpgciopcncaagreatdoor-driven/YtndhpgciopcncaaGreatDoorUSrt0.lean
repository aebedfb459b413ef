import Derived.Test.YtndhpgciopcncaaGreatDoorUOrd6
import Derived.Sort.Grow
import Derived.Sort.Statements
import Derived.Deep.Draws
import Derived.Test.YtndhpgciopcncaaGreatDoorUBnw0
import Derived.Test.YtndhpgciopcncaaGreatDoorUTel0
open Option renaming none → I
open Go.Value renaming int → J
open Go.IntKind renaming i64 → O
open Option renaming some → E
open Nat renaming lt_of_lt_of_le → Q
open Nat renaming le_refl → Y
open Go.RowKit.Below renaming refl → Z
set_option linter.unusedVariables false
set_option maxRecDepth 20000
set_option maxHeartbeats 8000000
open Go.Proofs.Tryz
namespace Go.Proofs.YtndhpgciopcncaaGreatDoor
open Go.ChangeMaps (setBlock)
open Go.RowKit Go.Maps Go.Shelf
theorem Xk(x y:Tsk):vH x y<0↔(x.kd<y.kd\/x.kd=y.kd/\(x.s.t<y.s.t\/x.s.t=y.s.t/\(x.s.sr<y.s.sr\/x.s.sr=y.s.sr/\x.s.wa<y.s.wa))):=by
 unfold vH
 simp only[orL,kz]
 repeat' split
 all_goals omega
theorem jI{α:Type}(a:α->α->Int)(j:∀x y z,¬a x y<0->¬a y z<0->¬a x z<0)(m:∀x,¬a x x<0)(c:∀x y,a x y<0->¬a y x<0):∀(l:List α) (f g:α),l.foldl (ZY a) (E f)=E g->¬a f g<0/\∀x∈l,¬a x g<0
 |[],f,g,h=>by
  have:f=g:=by simpa using h
  subst this
  exact⟨m _,fun x d=>by cases d⟩
 |x::l,f,g,h=>by
  rw[List.foldl_cons]at h
  by_cases d:a x f<0
  ·have e:ZY a (E f) x=E x:=by simp[ZY,d]
   rw[e]at h
   obtain⟨i,k⟩:=jI a j m c l x g h
   refine⟨j _ _ _ (c _ _ d) i,fun y b=>?_⟩
   rcases List.mem_cons.1 b with rfl|b
   ·exact i
   ·exact k y b
  ·have e:ZY a (E f) x=E f:=by simp[ZY,d]
   rw[e]at h
   obtain⟨i,k⟩:=jI a j m c l f g h
   refine⟨i,fun y b=>?_⟩
   rcases List.mem_cons.1 b with rfl|b
   ·exact j _ _ _ d i
   ·exact k y b
theorem J9(c:Cf)(now:Int)(a:Bool)(x y:Tsk):KP c now a x y<0↔((a=true/\y.kd<x.kd)\/(¬(a=true/\¬x.kd=y.kd)/\(yG c now x<yG c now y\/yG c now x=yG c now y/\vH x y<0))):=by
 unfold KP zhP
 generalize yG c now x=b
 generalize yG c now y=d
 cases a
 ·simp only[orL,kz]
  repeat' split
  all_goals first|(simp;omega)|(simp;done)|simp_all
 ·simp only[orL,kz]
  repeat' split
  all_goals first|(simp;omega)|(simp;done)|simp_all
theorem zhJ(c:Cf)(now:Int)(a:Bool)(x y z:Tsk)(b:¬KP c now a x y<0)(d:¬KP c now a y z<0):¬KP c now a x z<0:=by
 rw[J9,Xk]at*
 generalize yG c now x=e at*
 generalize yG c now y=f at*
 generalize yG c now z=g at*
 cases a<;>simp only[Bool.false_eq_true,true_and,false_and,false_or,not_false_eq_true]at* <;>omega
theorem zhI(c:Cf)(now:Int)(a:Bool)(x:Tsk):¬KP c now a x x<0:=by
 rw[J9,Xk]
 omega
theorem zhH(c:Cf)(now:Int)(a:Bool)(x y:Tsk)(h:KP c now a x y<0):¬KP c now a y x<0:=by
 rw[J9,Xk]at*
 cases a<;>simp only[Bool.false_eq_true,true_and,false_and,false_or,not_false_eq_true]at* <;>omega
theorem zit(gf:Nat)(lb:Array Value)(c:Nat)(a b:Array Value)(w:World):
  Calls prog 96 #[.func (.func gf) #[] lb,.func (.func c) a b] w fun e w'=>e=.returned (.func (.func 157) #[] #[.pointer (E ⟨w.1.size,0,I⟩),.pointer (E ⟨w.1.size+1,0,I⟩)])/\w'=(w.alloc (.cells #[.func (.func gf) #[] lb] 174)).alloc (.cells #[.func (.func c) a b] 179):=by
 go_enter func96,ntmps96
 go_wp2_with fail
 go_ret
 exact⟨rfl,rfl⟩
theorem ziq:∀args w,(callFunc 157 args).run prog w=.ok (.enter 157 args) w:=enters_of func157 (by kernel_rfl) rfl
theorem zA.setNum{w:World}{b:Nat}{c:Cf}{tv:Value}{ep num:Int}{tb qb:Nat}{TL:List (Jk×Tsk)}{QL:List (Tok×Lse)}(h:zA w b c tv ep num tb qb TL QL)(n:Int):zA (w.setCell ⟨b,8,I⟩ (J O n)) b c tv ep n tb qb TL QL:=by
 have a:zo (fun k=>k=b) w (w.setCell ⟨b,8,I⟩ (J O n)):=zi (zo.refl _ _) rfl
 exact⟨xy (i:=8) h.head (J O n),h.td.kept a h.tb_ne,h.leases.kept a h.qb_ne,h.apart⟩
theorem zdK{X:World}{qb:Nat}{QL:List (Tok×Lse)}(h:zV xx X qb QL)(d:QL.length<maxLen){t:Tok}(e:t.wf)(g:Lse):
  ∃o,(Instr.mapUpdate 168 (.map (E qb)) (.agg #[J O t.ep,J O t.num]) (.agg #[J O g.kd,J O g.s.t,J O g.s.sr,J O g.s.wa,J O g.slot,J O g.til])).run prog X=.ok () (setBlock X qb o)/\zV xx (setBlock X qb o) qb (qq QL t g)/\zo (fun k=>k=qb) X (setBlock X qb o):=by
 obtain⟨o,a,b,c,_⟩:=kX qX h d e g
 exact⟨o,a,b,c⟩
theorem zA.putLeases{w w':World}{b:Nat}{c:Cf}{tv:Value}{ep num:Int}{tb qb:Nat}{TL:List (Jk×Tsk)}{QL a:List (Tok×Lse)}(h:zA w b c tv ep num tb qb TL QL)(f:zV xx w' qb a)(d:zo (fun k=>k=qb) w w'):zA w' b c tv ep num tb qb TL a:=⟨d.heap h.head (fun e=>h.qb_ne e.symm),h.td.kept d h.apart,f,h.apart⟩
theorem KC{w:World}{g:Nat}(b0 b c d e f h i j l a:Value):zo (fun k=>k=g) w (((((((((((w.setCell ⟨g,0,I⟩ b0).setCell ⟨g,1,I⟩ b).setCell ⟨g,2,I⟩ c).setCell ⟨g,3,I⟩ d).setCell ⟨g,4,I⟩ e).setCell ⟨g,5,I⟩ f).setCell ⟨g,6,I⟩ h).setCell ⟨g,7,I⟩ i).setCell ⟨g,8,I⟩ j).setCell ⟨g,9,I⟩ l).setCell ⟨g,10,I⟩ a):=(zi (zi (zi (zi (zi (zi (zi (zi (zi (zi (zi (zo.refl (fun k=>k=g) w) rfl) rfl) rfl) rfl) rfl) rfl) rfl) rfl) rfl) rfl) rfl)
abbrev zeo(c:Cf)(now:Int):={x:Tsk//Xi c now x}
noncomputable def ziz (c:Cf) (now:Int) (h:0<=now) (x:Tsk):zeo c now:=by
 classical exact if hx:Xi c now x then⟨x,hx⟩else⟨⟨true,⟨-1,0,0⟩,0,0,0⟩,⟨by simp,by show(-1:Int)<c.n;omega,by simp,by show(0:Int)<=0/\(0:Int)<=now;omega⟩⟩
theorem Z6{c:Cf}{now:Int}(h:0<=now){x:Tsk}(a:Xi c now x):(ziz c now h x).1=x:=by unfold ziz;rw[dif_pos a]
def Jt(c:Cf)(now:Int)(a:Bool)(QL:List (Tok×Lse))(TL:List (Jk×Tsk))(x:Tsk):Prop:=∀q∈TL,yJ QL now q.2=true->¬KP c now a q.2 x<0
theorem Ko{c:Cf}{now:Int}{a:Bool}{l:List (zeo c now)}{g:zeo c now}(h:vM (fun x y:zeo c now=>KP c now a x.1 y.1) l=E g):∀x∈l,¬KP c now a x.1 g.1<0:=by
 cases l with
 |nil=>simp[vM]at h
 |cons f l=>
  obtain⟨d,e⟩:=jI (fun x y:zeo c now=>KP c now a x.1 y.1) (fun x y z=>zhJ c now a x.1 y.1 z.1) (fun x=>zhI c now a x.1) (fun x y=>zhH c now a x.1 y.1) l f g h
  intro x b
  rcases List.mem_cons.1 b with rfl|b
  ·exact d
  ·exact e x b
theorem zao{w:World}{b:Nat}{c:Cf}{a:Option Addr}{cap:Nat}{ep num:Int}{tb qb:Nat}{TL:List (Jk×Tsk)}{QL:List (Tok×Lse)}(h:zA w b c (.slice a c.n cap) ep num tb qb TL QL)(hc:c.ok)(aC:TS w a c.n c.F c.W c.K)(now:Int)(f:Bool)(d:0<=now/\now<=100000)(hT:∀p∈TL,Xi c now p.2)(aB:QL.length<=100000):
  Calls prog 48 #[.pointer (E ⟨b,0,I⟩),J O now,.bool f] w fun e w'=>Below w.1.size w w'/\((e=.returned (.tuple #[.nilIface,.bool false])/\∀p∈TL,yJ QL now p.2=false)\/∃p,p∈TL/\yJ QL now p.2=true/\Jt c now f QL TL p.2/\e=.returned (.tuple #[.iface p.2.jt (.agg #[J O p.2.s.t,J O p.2.s.sr,J O p.2.s.wa]),.bool true])):=by
 have aM:=h.lt
 obtain⟨y0,y1,a6,yz⟩:=box2 w (.cells #[.pointer (E ⟨b,0,I⟩)] 91) (.cells #[J O now] 3)
 have hX:=h.later a6
 have x9:=hX.cell9
 have aL:=hX.lt
 obtain⟨m0,-⟩:=zc y0
 obtain⟨m1,-⟩:=zc y1
 have aq:=zd (zcF tb ((w.alloc (.cells #[.pointer (E ⟨b,0,I⟩)] 91)).alloc (.cells #[J O now] 3)))
 have Y0:=zd y0
 have Y1:=zd y1
 have a1:=zd a6
 have YZ:=zd yz
 have H:=zd h
 have a7:=za y0
 have a8:=za y1
 clear h hX y0 y1 a6 yz
 go_enter func48,ntmps48
 go_wp2_with fail
 generalize((w.alloc (.cells #[.pointer (E ⟨b,0,I⟩)] 91)).alloc (.cells #[J O now] 3))=X at*
 refine(ud aq).mono ?_
 rintro e i ⟨rfl,L⟩
 have M:Below X.1.size X i:=by rw[L];exact(Z _ _).alloc (Y _) _
 have ac:i.1[X.1.size]?=E (.cells #[.map (E tb)] 169 (0,0)):=by rw[L];exact zm _ _
 have ah:i.1.size=X.1.size+1:=by rw[L];exact zL _ _
 have ar:=zd (zit 158 #[.pointer (E ⟨X.1.size,0,I⟩)] 98 #[] #[.pointer (E ⟨w.1.size+1,0,I⟩),.pointer (E ⟨w.1.size,0,I⟩)] i)
 have n0:=(M.cell (p:=⟨w.1.size,0,I⟩) a7).trans m0
 have n1:=(M.cell (p:=⟨w.1.size+1,0,I⟩) a8).trans m1
 have l:=zd M
 have al:=zd ac
 have au:=zd ah
 clear L M ac ah m0 m1 x9
 go_wp2_with fail
 refine(ud ar).mono ?_
 rintro e j ⟨rfl,ab⟩
 obtain⟨ag,af,N,ai⟩:j.1[i.1.size]?=E (.cells #[.func (.func 158) #[] #[.pointer (E ⟨X.1.size,0,I⟩)]] 174 (0,0))/\j.1[i.1.size+1]?=E (.cells #[.func (.func 98) #[] #[.pointer (E ⟨w.1.size+1,0,I⟩),.pointer (E ⟨w.1.size,0,I⟩)]] 179 (0,0))/\Below i.1.size i j/\j.1.size=i.1.size+2:=by rw[ab];exact box2 i _ _
 have V:=Q a7 (ud l).size
 have a0:=Q a8 (ud l).size
 have q0:=(N.cell (p:=⟨w.1.size,0,I⟩) V).trans n0
 have q1:=(N.cell (p:=⟨w.1.size+1,0,I⟩) a0).trans n1
 have ap:=zd ag
 have an:=zd af
 have C:=zd N
 have av:=zd ai
 clear ab ag af N ai n0 n1
 go_wp2_with fail
 have am:=zd (zdh b now f j)
 refine(ud am).mono ?_
 rintro e X3 ⟨rfl,hO,o,aD⟩
 have R:Below w.1.size w j:=(ud a1).trans (((ud l).mono (ud a1).size).trans ((ud C).mono (by have:=(ud l).size;have:=(ud a1).size;omega)))
 have k:=R.trans (o.mono R.size)
 have hZ:X.1.size=w.1.size+2:=ud YZ
 have aw:i.1.size=X.1.size+1:=ud au
 have ax:j.1.size=i.1.size+2:=ud av
 have a4:=(ud H).later R
 have U:=((ud C).block _ (by omega)).trans (ud al)
 have T:=((ud C).block _ a0).trans (((ud l).block _ a8).trans (ud Y1))
 have S:=((ud C).block _ V).trans (((ud l).block _ a7).trans (ud Y0))
 have z:=ziR (fun x:zeo c now=>x.1) (ziz c now d.1) (ex:=fun _=>False) (n:=j.1.size) X.1.size tb TL (fun p P=>Z6 d.1 (hT p P)) j (fun e=>e) (by omega) (by rw[xD U];rfl) a4.td
 have A:=zef (fun x:zeo c now=>x.1) 158 #[.pointer (E ⟨X.1.size,0,I⟩)] zgh 98 #[] #[.pointer (E ⟨w.1.size+1,0,I⟩),.pointer (E ⟨w.1.size,0,I⟩)] KV (fun x=>yJ QL now x.1) i.1.size (i.1.size+1) j (Y _) ⟨by omega,fun e=>e⟩ ⟨by omega,fun e=>e⟩ (ud ap) (ud an)
  (fun x W ⟨m,hk⟩=>by
   have a5:=X8 hk (Y _)
   have g1:=(a5.block _ (by omega)).trans T
   have g0:=(a5.block _ (by omega)).trans S
   exact zdk (a4.later a5) x.1 now aB (w.1.size+1) w.1.size (za g1) (za g0) (by rw[xD g1];rfl) (by rw[xD g0];rfl)) z
 have HF:=zd (zaD (fun x:zeo c now=>x.1) 157 #[.pointer (E ⟨i.1.size,0,I⟩),.pointer (E ⟨i.1.size+1,0,I⟩)] ziq 161 #[.pointer (E ⟨j.1.size+2,0,I⟩),.pointer (E ⟨j.1.size+3,0,I⟩)] KQ (fun x y=>KP c now f x.1 y.1) X3 (Nat.le_trans (Y _) o.size)
  (fun x y W hW=>zaX ((ud H).later (k.trans (hW.mono k.size))) hc (aC.below (k.trans (hW.mono k.size))) now d f j.1.size (hO.later hW) x.1 y.1 x.2 y.2)
  (A.later o))
 have r2:=(k.block)
 have D:=zd k
 have aE:w.1.size<j.1.size:=by omega
 have aF:w.1.size+1<j.1.size:=by omega
 have aj:=(o.cell (p:=⟨w.1.size,0,I⟩) aE).trans q0
 have ak:=(o.cell (p:=⟨w.1.size+1,0,I⟩) aF).trans q1
 have aI:w.1.size+1<X3.1.size:=by omega
 clear R k a4 U T S z A hO o r2 q0 q1 hZ aw ax aD
 go_wp2_with fail
 refine(ud HF).mono ?_
 rintro e X4 ⟨xs,hS,rfl,r⟩
 have aG:w.1.size<X3.1.size:=by omega
 have aH:w.1.size+1<X3.1.size:=by omega
 have z0:=(r.cell (p:=⟨w.1.size,0,I⟩) aG).trans aj
 have z1:=(r.cell (p:=⟨w.1.size+1,0,I⟩) aH).trans ak
 have aa:=(ud H).later ((ud D).trans (r.mono (ud D).size))
 have aK:=zd aa
 have G:=zd ((ud D).trans (r.mono (ud D).size))
 have aJ:=r.size
 have a2:=zd hS
 clear HF aj ak aa r hS
 rcases zcz (fun x y:zeo c now=>KP c now f x.1 y.1) xs with⟨ae,hf⟩|⟨g,hg,hf⟩
 ·rw[hf]
  dsimp only[Option.map_none,Ql,Option.isSome_none]
  have B:=(ud G).alloc (ud G).size (.cells #[.nilIface,J O 0,J O 0,J O 0] 177)
  have a3:=zd B
  clear hf B
  go_wp2_with fail
  go_ret2
  refine⟨ud a3,.inl ⟨rfl,fun p P=>?_⟩⟩
  obtain⟨zs,⟨ps,u,rfl⟩,v⟩:=ud a2
  rw[ae]at v
  cases ay:yJ QL now p.2 with
  |false=>rfl
  |true=>
   have:ziz c now d.1 p.2∈(ps.map (fun p:Jk×Tsk=>ziz c now d.1 p.2)).filter (fun x=>yJ QL now x.1):=List.mem_filter.2 ⟨List.mem_map.2 ⟨p,u.mem_iff.2 P,rfl⟩,by rw[Z6 d.1 (hT p P)];exact ay⟩
   rw[<-v]at this;simp at this
 ·rw[hf]
  dsimp only[Option.map_some,Ql,Zi,Option.isSome_some]
  have a9:Hid (Jt c now f QL TL g.1):=fun q hq az=>by
   obtain⟨zs,⟨ps,u,rfl⟩,v⟩:=ud a2
   have ad:ziz c now d.1 q.2∈xs:=by rw[v];exact List.mem_filter.2 ⟨List.mem_map.2 ⟨q,u.mem_iff.2 hq,rfl⟩,by rw[Z6 d.1 (hT q hq)];exact az⟩
   have:=Ko hf _ ad
   rw[Z6 d.1 (hT q hq)]at this
   exact this
  obtain⟨x,hx⟩:=g
  have ao:Hid (∃p,p∈TL/\p.2=x/\yJ QL now x=true):=by
   obtain⟨zs,⟨ps,u,rfl⟩,v⟩:=ud a2
   rw[v]at hg
   obtain⟨h1,h2⟩:=List.mem_filter.1 hg
   obtain⟨p,P,e⟩:=List.mem_map.1 h1
   have e2:=congrArg Subtype.val e
   rw[Z6 d.1 (hT p (u.mem_iff.1 P))]at e2
   exact⟨p,u.mem_iff.1 P,e2,h2⟩
  clear hf hg
  have B:=(ud G).alloc (ud G).size (.cells #[.iface x.jt (.agg #[J O x.s.t,J O x.s.sr,J O x.s.wa]),J O x.se,J O x.ti,J O x.rest] 177)
  have a3:=zd B
  clear B
  go_wp2_with fail
  go_ret2
  obtain⟨p,P,rfl,aA⟩:=ud ao
  exact⟨ud a3,.inr ⟨p.1,p.2,P,aA,ud a9,rfl⟩⟩
theorem zcS{w:World}{b:Nat}{c:Cf}{a:Option Addr}{cap:Nat}{ep num:Int}{tb qb:Nat}{TL:List (Jk×Tsk)}{QL:List (Tok×Lse)}(h:zA w b c (.slice a c.n cap) ep num tb qb TL QL)(hc:c.ok)(x:Tsk)(hx:zQ TL x.key=E x)(am:x.key.wf)(slot now:Int)(B:0<=now/\now<=100000)(aD:QL.length<=100000)(aj:0<=num/\num<=1000000000000000)(ag:xh ep)(ai:∀q∈QL,q.2.job≠x.key):
  Calls prog 49 #[.pointer (E ⟨b,0,I⟩),.iface x.jt (.agg #[J O x.s.t,J O x.s.sr,J O x.s.wa]),J O slot,J O now] w fun e w'=>e=.returned (.agg #[J O x.kd,J O x.s.t,J O x.s.sr,J O x.s.wa,J O x.se,J O x.ti,J O x.rest,J O ep,J O (num+1),J O slot,J O (now+c.le)])/\zA w' b c (.slice a c.n cap) ep (num+1) tb qb TL (qq QL ⟨ep,num+1⟩ ⟨x.kd,x.s,slot,now+c.le⟩)/\zo (fun k=>k=b\/k=qb) w w':=by
 have aQ:=h.lt
 obtain⟨-,-,-,-,-,-,-,-,w8,-⟩:=zc h.head
 have wf:=zE h.head 8
 have aR:IntKind.i64.wrap (num+1)=num+1:=by rw[IntKind.wrap_i64];omega
 obtain⟨P,A⟩:∃P,((w.setCell ⟨b,8,I⟩ (J O (num+1))).alloc (.cells #[J O 0,J O 0,J O 0,J O 0,J O 0,J O 0,J O 0,J O 0,J O 0,J O 0,J O 0] 51))=P:=⟨_,rfl⟩
 have al:(w.setCell ⟨b,8,I⟩ (J O (num+1))).1.size=w.1.size:=by simp
 have ae:=h.setNum (num+1)
 have af:Below (w.setCell ⟨b,8,I⟩ (J O (num+1))).1.size (w.setCell ⟨b,8,I⟩ (J O (num+1))) P:=by rw[<-A];exact(Z _ _).alloc (Y _) _
 have K:=ae.later af
 have a1:P.1[w.1.size]?=E (.cells #[J O 0,J O 0,J O 0,J O 0,J O 0,J O 0,J O 0,J O 0,J O 0,J O 0,J O 0] 51 (0,0)):=by rw[<-A,<-al];exact zm _ _
 have F:=K.lt
 have lR:=za a1
 obtain⟨s0,s1,s2,s3,s4,s5,s6,s7,s8,-,aJ,-⟩:=zc K.head
 have ap:Hid (zo (fun k=>k=b) w P):=by rw[<-A];exact(zi (zo.refl (fun k=>k=b) w) rfl).alloc _
 have aA:Hid ((⟨ep,num+1⟩:Tok).wf):=⟨ag,by unfold xh;dsimp only;omega⟩
 have a8:=fun W=>zd (keyOf_any x W)
 have a9:=fun W=>zd (keyOf_any x W)
 have aa:=fun W=>zd (zaQ c a cap W)
 have l:¬b=qb:=fun e=>h.qb_ne e.symm
 have aT:¬b=w.1.size:=by omega
 have aO:¬w.1.size=b:=by omega
 have aG:¬w.1.size=qb:=fun e=>by have:=h.foot_lt qb (.inr (.inr rfl));omega
 have a5:QL.length<maxLen:=by simp only[maxLen];omega
 obtain⟨aK,aL⟩:=hc.le
 have aM:=B.1
 have aN:=B.2
 have aS:IntKind.i64.wrap (now+c.le)=now+c.le:=by rw[IntKind.wrap_i64];omega
 have R:=h.leases.nodup
 have ar:=zd ai
 have HX:=zd hx
 have ad:=zd am
 have au:=zd R
 have a6:=zd K
 have av:=zd a1
 have aB:=zd A
 have H:=zd h
 have ao:=zd h.foot_lt
 clear h ae af K a1 A al ai hx am R aj B ag aD
 go_enter func49,ntmps49
 go_wp2_with fail
 rw[ud aB]
 clear w8 wf
 go_region_held3 (fun w'=>w'.cell? ⟨b,0,I⟩=E (J O c.s)/\w'.cell? ⟨b,1,I⟩=E (J O c.le)/\w'.cell? ⟨b,2,I⟩=E (J O c.la)/\w'.cell? ⟨b,3,I⟩=E (J O c.wi)/\w'.cell? ⟨b,4,I⟩=E (J O c.ke)/\w'.cell? ⟨b,5,I⟩=E (J O c.qu)/\w'.cell? ⟨b,6,I⟩=E (.slice a c.n cap)/\w'.cell? ⟨b,7,I⟩=E (J O ep)/\w'.cell? ⟨b,8,I⟩=E (J O (num+1))/\w'.cell? ⟨b,10,I⟩=E (.map (E qb))) (go_keep) (first
  |(go_at_call 102;(with_reducible refine(ud (a8 _)).mono ?_);rintro e r ⟨rfl,d⟩;have hv:Below P.1.size P r:=⟨d.os,d.tape,d.output,d.size,d.block⟩;clear d;have p0:r.cell? ⟨b,0,I⟩=E (J O c.s):=(hv.cell (p:=⟨b,0,I⟩) F).trans s0;have p1:r.cell? ⟨b,1,I⟩=E (J O c.le):=(hv.cell (p:=⟨b,1,I⟩) F).trans s1;have p2:r.cell? ⟨b,2,I⟩=E (J O c.la):=(hv.cell (p:=⟨b,2,I⟩) F).trans s2;have p3:r.cell? ⟨b,3,I⟩=E (J O c.wi):=(hv.cell (p:=⟨b,3,I⟩) F).trans s3;have p4:r.cell? ⟨b,4,I⟩=E (J O c.ke):=(hv.cell (p:=⟨b,4,I⟩) F).trans s4;have p5:r.cell? ⟨b,5,I⟩=E (J O c.qu):=(hv.cell (p:=⟨b,5,I⟩) F).trans s5;have p6:r.cell? ⟨b,6,I⟩=E (.slice a c.n cap):=(hv.cell (p:=⟨b,6,I⟩) F).trans s6;have p7:r.cell? ⟨b,7,I⟩=E (J O ep):=(hv.cell (p:=⟨b,7,I⟩) F).trans s7;have p8:r.cell? ⟨b,8,I⟩=E (J O (num+1)):=(hv.cell (p:=⟨b,8,I⟩) F).trans s8;have aH:r.cell? ⟨b,10,I⟩=E (.map (E qb)):=(hv.cell (p:=⟨b,10,I⟩) F).trans aJ;have D:=Q F hv.size;have ac:=zd hv;clear hv a8)
  |(go_at_call 103;(with_reducible refine(ud (aa _)).mono ?_);rintro e y ⟨rfl,d⟩;have hv:Below r.1.size r y:=⟨d.os,d.tape,d.output,d.size,d.block⟩;clear d;have r0:y.cell? ⟨b,0,I⟩=E (J O c.s):=(hv.cell (p:=⟨b,0,I⟩) D).trans p0;have r1:y.cell? ⟨b,1,I⟩=E (J O c.le):=(hv.cell (p:=⟨b,1,I⟩) D).trans p1;have r2:y.cell? ⟨b,2,I⟩=E (J O c.la):=(hv.cell (p:=⟨b,2,I⟩) D).trans p2;have r3:y.cell? ⟨b,3,I⟩=E (J O c.wi):=(hv.cell (p:=⟨b,3,I⟩) D).trans p3;have r4:y.cell? ⟨b,4,I⟩=E (J O c.ke):=(hv.cell (p:=⟨b,4,I⟩) D).trans p4;have r5:y.cell? ⟨b,5,I⟩=E (J O c.qu):=(hv.cell (p:=⟨b,5,I⟩) D).trans p5;have r6:y.cell? ⟨b,6,I⟩=E (.slice a c.n cap):=(hv.cell (p:=⟨b,6,I⟩) D).trans p6;have r7:y.cell? ⟨b,7,I⟩=E (J O ep):=(hv.cell (p:=⟨b,7,I⟩) D).trans p7;have r8:y.cell? ⟨b,8,I⟩=E (J O (num+1)):=(hv.cell (p:=⟨b,8,I⟩) D).trans p8;have aI:y.cell? ⟨b,10,I⟩=E (.map (E qb)):=(hv.cell (p:=⟨b,10,I⟩) D).trans aH;have G:=Q D hv.size;have a3:=(ud ac).trans (hv.mono (ud ac).size);obtain⟨o,S,hm,m⟩:=zdK ((ud a6).later a3).leases a5 (ud aA) ⟨x.kd,x.s,slot,now+c.le⟩;dsimp only at S;obtain⟨U,hU⟩:∃U,setBlock y qb o=U:=⟨_,rfl⟩;rw[hU]at S hm m;have u0:U.cell? ⟨b,0,I⟩=E (J O c.s):=(zM (i:=0) m l G).trans r0;have u1:U.cell? ⟨b,1,I⟩=E (J O c.le):=(zM (i:=1) m l G).trans r1;have u2:U.cell? ⟨b,2,I⟩=E (J O c.la):=(zM (i:=2) m l G).trans r2;have u3:U.cell? ⟨b,3,I⟩=E (J O c.wi):=(zM (i:=3) m l G).trans r3;have u4:U.cell? ⟨b,4,I⟩=E (J O c.ke):=(zM (i:=4) m l G).trans r4;have u5:U.cell? ⟨b,5,I⟩=E (J O c.qu):=(zM (i:=5) m l G).trans r5;have u6:U.cell? ⟨b,6,I⟩=E (.slice a c.n cap):=(zM (i:=6) m l G).trans r6;have u7:U.cell? ⟨b,7,I⟩=E (J O ep):=(zM (i:=7) m l G).trans r7;have u8:U.cell? ⟨b,8,I⟩=E (J O (num+1)):=(zM (i:=8) m l G).trans r8;have aU:U.cell? ⟨b,10,I⟩=E (.map (E qb)):=(zM (i:=10) m l G).trans aI;have X:=zd a3;have aq:=zd hm;have V:=zd m;clear hv a3 hm m hU aa))
 all_goals(
  have L:=((ud a6).later (ud X)).putLeases (ud aq) (ud V)
  have ak:=((ud X).block _ lR).trans (ud av)
  have a4:=(ud V).heap ak aG
  have ax:=zd a4
  have a7:=zd L
  have lU:b<U.1.size:=L.lt
  have an:=za a4
  obtain⟨-,-,-,-,-,-,-,-,-,u9,-⟩:=zc L.head
  clear L ak a4
  go_wp2_with fail
  go_region_held3 (fun w'=>w'.cell? ⟨b,9,I⟩=E (.map (E tb))) (go_keep) (first
   |(go_at_call 102;(with_reducible refine(ud (a9 _)).mono ?_);rintro e N ⟨rfl,d⟩;have hv:Below U.1.size U N:=⟨d.os,d.tape,d.output,d.size,d.block⟩;clear d;have q9:N.cell? ⟨b,9,I⟩=E (.map (E tb)):=(hv.cell (p:=⟨b,9,I⟩) lU).trans u9;have z:=(ud a7).later hv;have aC:=Ys z.td (ud ad) (ud HX);have ah:=Ys (z.later (Z _ _).drew).td (ud ad) (ud HX);dsimp only[Tsk.key]at aC ah;have a2:=fun W (hW:Below N.1.size N W)=>zd (zfT (z.later hW) x ⟨ep,num+1⟩ ⟨x.kd,x.s,slot,now+c.le⟩ (zO (by rw[vi (ud au),if_pos rfl])) rfl (fun q hq e=>by
    rcases qs hq with rfl|⟨hq,_⟩
    ·rfl
    ·exact absurd e (ud ar q hq)));have ay:=a2 N (Z _ _);have az:=a2 N.drew (Z _ _).drew;have a0:=zd hv;have aF:=Q an hv.size;have aE:=z.lt;clear hv z a2)
   |(go_at_call 104;(first|(with_reducible refine(ud ay).mono ?_)|(with_reducible refine(ud az).mono ?_));rintro e T ⟨rfl,u⟩;have M:Below N.1.size N T:=⟨u.os,u.tape,u.output,u.size,u.block⟩;clear u;have C:=(M.block _ aF).trans (((ud a0).block _ an).trans (ud ax));have g9:T.cell? ⟨b,9,I⟩=E (.map (E tb)):=(M.cell (p:=⟨b,9,I⟩) aE).trans q9;obtain⟨e0,e1,e2,e3,e4,e5,e6,e7,e8,e9,aP,-⟩:=zc C;have ef:=fun j=>zE C j;have lT:w.1.size<T.1.size:=za C;have aw:=zd C;have ab:=zd M;clear C M))
  all_goals(
   go_wp2_with fail
   have hf:=zbq (ud aw) (J O x.kd) (J O x.s.t) (J O x.s.sr) (J O x.s.wa) (J O x.se) (J O x.ti) (J O x.rest) (J O ep) (J O (num+1)) (J O slot) (J O (now+c.le))
   refine bodyPost_ret (v:=.agg #[J O x.kd,J O x.s.t,J O x.s.sr,J O x.s.wa,J O x.se,J O x.ti,J O x.rest,J O ep,J O (num+1),J O slot,J O (now+c.le)]) (results_cell_row results49 _ _ w.1.size _ _ _ _ rfl hf underlying51 rfl (by kernel_rfl)) rfl ?_
   have kT:=KC (w:=T) (g:=w.1.size) (J O x.kd) (J O x.s.t) (J O x.s.sr) (J O x.s.wa) (J O x.se) (J O x.ti) (J O x.rest) (J O ep) (J O (num+1)) (J O slot) (J O (now+c.le))
   have k1:zo (fun k=>k=b\/k=qb) w P:=(ud ap).mono (fun k _ e=> .inl e)
   have k2:=k1.trans (zo.of_below (f:=fun k=>k=b\/k=qb) (ud X)) (fun _ _ e=>e)
   have k3:=k2.trans ((ud V).mono (fun k _ e=> .inr e)) (fun _ _ e=>e)
   have k4:=k3.trans (zo.of_below (f:=fun k=>k=b\/k=qb) (ud a0)) (fun _ _ e=>e)
   have k5:=k4.trans (zo.of_below (f:=fun k=>k=b\/k=qb) (ud ab)) (fun _ _ e=>e)
   exact⟨rfl,(((ud a7).later (ud a0)).later (ud ab)).kept kT (fun k m e=>by have:=ud ao k m;omega),k5.trans kT (fun k m e=>by omega)⟩))
end Go.Proofs.YtndhpgciopcncaaGreatDoor
