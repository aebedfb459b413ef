import Derived.Test.YtndhpgciopcncaaGreatDoorXRef8
import Derived.Test.YtndhpgciopcncaaGreatDoorXBrd0
import Derived.Test.YtndhpgciopcncaaGreatDoorXLay2
open Option renaming some → J
open Nat renaming lt_of_lt_of_le → Y
open Nat renaming le_refl → N
open Go renaming Value → S
open Go.RowKit.Below renaming refl → A
open Nat renaming le_trans → D
open Go.RowKit renaming Below → L
open Option renaming none → R
open Go renaming World → T
set_option linter.unusedVariables false
set_option maxRecDepth 8000
set_option maxHeartbeats 4000000
open Go.Proofs.Tryz
namespace Go.Proofs.YtndhpgciopcncaaGreatDoor
open Go.ChangeMaps (setBlock)
open Go.RowKit Go.Maps Go.Shelf
variable {a:Act} {ops:Array Oper} {Q:Exit->Act->T->Prop} {eo ep now num:Int} {rest:List Oper} {xs:List S} {B X cap d g i j k n p po size:Nat} {o:Oper} {ct gv kv mv nv pv tv u v z:S} {w w' w5:T}
theorem Vh{K:Act->T->Prop}{E:Prop}(p:o.guard=R)(s x:Operand)(t e:TypeId)(size c:Nat)(I:o.op=.call {callee:=.builtin .append,args:=#[s,x],argTypes:=#[t,t]})(V:prog.underlying t=J (.slice e))(d:(prog.info? e).map (fun i=>(i.zero,i.size,i.bytes))=J (J z,size,c))(y:z.cells.size=size)(r:0<size)(base:Nat)(v:S)(n:Nat)(xs:List S)(O:a.eval s=v)(k:w.ownsRow base e size v n xs)(l:Nat)(b:List S)(ty:TypeId)(fr:Nat×Nat)(X:a.eval x=.slice (J (U l 0)) 1 1)(m:w.1[l]?=J (.cells b.toArray ty fr))(hl:b.length=size)(B:∀u∈b,u.oneCell'=true)(h63:n+1<=maxLen)(hbytes:(n+1)*c<=140737488355328)(f:base<=w.1.size)(h:∀g cap w',w'.ownsRow base e size (.slice (J (U g 0)) (n+1) cap) (n+1) (xs++b)->w.grownBy w' v.ownBlock->(v.ownBlock=J g\/g=w.1.size)->g<w'.1.size->K (a.put o.dst (.slice (J (U g 0)) (n+1) cap)) w'):
  if Region.wanted o (yielded ops a.tmps)=true then Oper.wp prog o a w K Q else E:=by
 have W:Region.wanted o (yielded ops a.tmps)=true:=by simp[Region.wanted,p]
 rw[if_pos W];cases q:prog.info? e with
 |none=>simp[q]at d
 |some i=>
  simp only[q,Option.map_some,Option.some.injEq,Prod.mk.injEq]at d;obtain⟨Z,j,hby⟩:=d;have hn:=World.news_of_block (cs:=b.toArray) m;obtain⟨g,cap,w',M,C,_,F,G,H⟩:=vT (P:=prog) w t o.type base e i _ size c V q Z j hby y r v n xs k (U l 0) 1 1 b (by omega) hn B (by decide) h63 hbytes f;unfold Oper.wp;simp[execOp,I,resolve,invoke,builtin,O,X,M,Result.andThen];exact h g cap w' C F G H
theorem vh{e:TypeId}(h:w.ownsRow B e size (.slice (J (U g 0)) n cap) n xs)(r:i<n*size)(u:S):(w.setCell (U g i) u).ownsRow B e size (.slice (J (U g 0)) n cap) n (xs.set i u):=by
 refine⟨by simpa using h.1,?_⟩;rcases h.2 with⟨j,_⟩|⟨q,f,c,hv,k,b,hn,l,p,m⟩
 ·cases j
 ·injection hv with a o d;injection a with a;injection a with a;subst a d;refine .inr ⟨g,cap,c.setIfInBounds i u,rfl,k,xq b u,hn,l,by simpa using p,?_⟩;rw[Array.toList_setIfInBounds,List.take_set,m]
theorem yn{α:Type}{f:α->List S}{k:Nat}(c:∀a,(f a).length=k){a a':α}{j:Nat}{v:S}(d:j<k)(hv:(f a).set j v=f a'):∀(l:List α) (i:Nat),l[i]?=J a->(l.flatMap f).set (i*k+j) v=(l.set i a').flatMap f
 |[],i,h=>by simp at h
 |b::l,0,h=>by
  have e:b=a:=by simpa using h
  subst e;simp only[List.flatMap_cons,List.set_cons_zero,Nat.zero_mul,Nat.zero_add];rw[List.set_append_left _ _ (by rw[c];exact d),hv]
 |b::l,i+1,h=>by
  have g:=yn c d hv l i (by simpa using h);simp only[List.flatMap_cons,List.set_cons_succ];rw[List.set_append_right _ _ (by rw[c,Nat.add_mul];omega),c,<-g];congr 2;rw[Nat.add_mul];omega
variable {m:RM} {x:Tk}
theorem zR.putTask(h:zR B w p m tv nv pv gv (.slice (J (U g 0)) m.tg.length cap)){x':Tk}(l:m.tg[i]?=J x)(o:j<11)(hv:(tkV x).set j v=tkV x'):
  zR B (w.setCell (U g (i*11+j)) v) p {m with tg:=m.tg.set i x'} tv nv pv gv (.slice (J (U g 0)) (m.tg.set i x').length cap)/\zj (fun k=>k=g) w (w.setCell (U g (i*11+j)) v):=by
 have n:i<m.tg.length:=(List.getElem?_eq_some_iff.1 l).1;have c:zj (fun k=>k=g) w (w.setCell (U g (i*11+j)) v):=zk (zj.refl _ _) rfl;have f:=vh h.krow (i:=i*11+j) (by omega) v;rw[yn yd o hv _ _ l]at f;have d:(m.tg.set i x').length=m.tg.length:=List.length_set ..;refine⟨⟨?_,h.base,zi h.trow c (fun k a b=>xZ h.trow h.krow (by decide) k a (by rw[b];rfl)),zi h.nrow c (fun k a b=>xZ h.nrow h.krow (by decide) k a (by rw[b];rfl)),zi h.prow c (fun k a b=>xZ h.prow h.krow (by decide) k a (by rw[b];rfl)),zi h.grow c (fun k a b=>xZ h.grow h.krow (by decide) k a (by rw[b];rfl)),?_⟩,c⟩
 ·rw[d];exact c.heap h.head (fun e=>zv h.head h.krow (by decide) g rfl e.symm)
 ·rw[d];exact f
def Tk.fail(now:Int)(x:Tk):Tk:={x with tc:=x.tc+1,rest:=now+Zi (x.tc+1).toNat,ep:=0,num:=0,slot:= -1,till:=0}
variable {l:List Tk}
theorem zR.putTask'(h:zR B w p {m with tg:=l} tv nv pv gv (.slice (J (U g 0)) l.length cap))(b:l[i]?=J x)(j:Nat)(x':Tk)(v:S)(e:j<11)(hv:(tkV x).set j v=tkV x'):
  zR B (w.setCell (U g (i*11+j)) v) p {m with tg:=l.set i x'} tv nv pv gv (.slice (J (U g 0)) (l.set i x').length cap)/\(l.set i x')[i]?=J x'/\zj (fun k=>k=g) w (w.setCell (U g (i*11+j)) v):=by
 have a:i<l.length:=(List.getElem?_eq_some_iff.1 b).1;obtain⟨c,d⟩:=zR.putTask (m:={m with tg:=l}) h b e hv;exact⟨c,by rw[List.getElem?_set_self a],d⟩
theorem zbi(h:zR B w p {m with tg:=l} tv nv pv gv (.slice (J (U g 0)) l.length cap))(s:l[i]?=J x)(r:Int):
  zR B (((((w.setCell (U g (i*11+6)) (I r)).setCell (U g (i*11+7)) (I 0)).setCell (U g (i*11+7+1)) (I 0)).setCell (U g (i*11+9)) (I (-1))).setCell (U g (i*11+10)) (I 0)) p {m with tg:=l.set i {x with rest:=r,ep:=0,num:=0,slot:= -1,till:=0}} tv nv pv gv (.slice (J (U g 0)) l.length cap)/\
  zj (fun k=>k=g) w (((((w.setCell (U g (i*11+6)) (I r)).setCell (U g (i*11+7)) (I 0)).setCell (U g (i*11+7+1)) (I 0)).setCell (U g (i*11+9)) (I (-1))).setCell (U g (i*11+10)) (I 0)):=by
 obtain⟨a1,a,f⟩:=h.putTask' s 6 {x with rest:=r} (I r) (by omega) rfl;obtain⟨a2,b,j⟩:=a1.putTask' a 7 {x with rest:=r,ep:=0} (I 0) (by omega) rfl;obtain⟨a3,c,n⟩:=a2.putTask' b 8 {x with rest:=r,ep:=0,num:=0} (I 0) (by omega) rfl;obtain⟨a4,d,o⟩:=a3.putTask' c 9 {x with rest:=r,ep:=0,num:=0,slot:= -1} (I (-1)) (by omega) rfl;obtain⟨a5,t,q⟩:=a4.putTask' d 10 {x with rest:=r,ep:=0,num:=0,slot:= -1,till:=0} (I 0) (by omega) rfl;refine⟨?_,(((f.trans j (fun _ _ e=>e)).trans n (fun _ _ e=>e)).trans o (fun _ _ e=>e)).trans q (fun _ _ e=>e)⟩;simp only[List.set_set,List.length_set]at a5;exact a5
theorem fend{W Z:T}{q:Nat}(c:x.tc+1=q)(b:zj (fun k=>k=g) w W)(h:zR B Z p {m with tg:=(m.tg.set i {x with tc:=(q:Int)}).set i {x with tc:=(q:Int),rest:=m.now+(Zi q:Nat),ep:=0,num:=0,slot:= -1,till:=0}} tv nv pv gv (.slice (J (U g 0)) (m.tg.set i {x with tc:=(q:Int)}).length cap)/\zj (fun k=>k=g) W Z):
  zR B Z p {m with tg:=m.tg.set i (x.fail m.now)} tv nv pv gv (.slice (J (U g 0)) m.tg.length cap)/\zj (fun k=>k=g) w Z:=by
 refine⟨?_,b.trans h.2 (fun _ _ e=>e)⟩;have a:=h.1;simp only[List.set_set,List.length_set]at a;have e:x.fail m.now={x with tc:=(q:Int),rest:=m.now+(Zi q:Nat),ep:=0,num:=0,slot:= -1,till:=0}:=by
  unfold Tk.fail;rw[c,Int.toNat_natCast]
 rw[e];exact a
theorem Jr(h:zR B w p m tv nv pv gv (.slice (J (U g 0)) m.tg.length cap))(a4:m.tg.length<=1000000000)(P:m.tg[i]?=J x)(ht:0<=x.tc/\x.tc<=1000000000)(r:0<=m.now/\m.now<=100000):
  Calls prog 249 #[(O p),I i] w fun e w'=>e=.returned (.tuple #[])/\zR B w' p {m with tg:=m.tg.set i (x.fail m.now)} tv nv pv gv (.slice (J (U g 0)) m.tg.length cap)/\zj (fun k=>k=g) w w':=by
 have G:i<m.tg.length:=(List.getElem?_eq_some_iff.1 P).1;have a1:(i:Int)<m.tg.length:=by omega
 obtain⟨t0,t1⟩:=ht;obtain⟨w1,w2⟩:=r;obtain⟨q,hq⟩:∃q:Nat,x.tc+1=q:=⟨(x.tc+1).toNat,by omega⟩;obtain⟨X,-,-,-,f,-,-⟩:=h.rest;have hp:=h.lt;obtain⟨g',n,hv,E,a3,-,-,-,-,-,y5,-,-,-,-,-⟩:=X9 h.krow P;injection hv with a M c;injection a with a;injection a with a;subst a c;have rf:∀j,w.frozen? (U g j)=false:=fun j=>by
  obtain⟨z,F⟩:=zG h.krow (k:=g) rfl;exact zI F j
 have a7:¬p=g:=fun e=>zv h.head h.krow (by decide) g rfl e.symm;have H:=ze h;have Z:=ze (h.putTask (j:=5) (v:=I q) (x':={x with tc:=q}) P (by omega) rfl);have d:(m.tg.set i {x with tc:=(q:Int)})[i]?=J {x with tc:=(q:Int)}:=by rw[List.getElem?_set_self G]
 have a8:(q:Int)<=1000000001:=by omega
 have HQ:=ze hq;clear h E;go_in;go_wp2_with fail;generalize(w.setCell (U g (i*11+5)) (I q))=W at*;obtain⟨b,hK⟩:=ud Z;obtain⟨X,-,-,-,f,-,-⟩:=b.rest;have a6:=b.lt;have K:(m.tg.set i {x with tc:=(q:Int)}).length=m.tg.length:=List.length_set ..;clear X f y5 rf;obtain⟨X,-,-,-,f,-,-⟩:=b.rest;obtain⟨g',n,hv,E,a0,-,-,-,-,-,y5,y6,y7,y8,y9,a9⟩:=X9 b.krow d;injection hv with a M c;injection a with a;injection a with a;subst a c;have rf:∀j,W.frozen? (U g j)=false:=fun j=>by
  obtain⟨z,F⟩:=zG b.krow (k:=g) rfl;exact zI F j
 have HR:=ze b;have HK:=ze hK;clear b hK Z E H K;go_loopw [5,6] (fun x y wr=>∃(k:Nat),k<=5/\k<=q/\x=I ((2:Int)^k)/\y=I k/\wr=W) (fun _ y _=>5-(intOf y).toNat);case atStart=>exact⟨0,by omega,Nat.zero_le _,by simp,rfl,rfl⟩
 case round=>
  obtain⟨k,o,a5,rfl,rfl,rfl⟩:=hrel;obtain⟨Q,V⟩:=zmU o;by_cases h1:k<q
  ·have a2:(k:Int)<q:=(by omega);by_cases h2:k<5
   ·have C:(2:Int)^k<32:=(zmV o).2 h2;have u:Hid (2*(2:Int)^k=2^(k+1)):=(by show 2*(2:Int)^k=2^(k+1);rw[Int.pow_succ];omega);obtain⟨v,hv⟩:∃v,(2:Int)^k=v:=⟨_,rfl⟩;rw[hv]at u C Q V ⊢;clear hv;go_wp2_with fail;go_roundw;case rel=>exact⟨k+1,by omega,by omega,by rw[<-ud u],by go_num,trivial⟩
    case measure=>simp[intOf];omega
   ·obtain rfl:k=5:=(by omega);have l:((2:Int)^5)=(Zi q:Nat):=(by unfold Zi;rw[show min q 5=5 by omega];rfl);have t:=ze (zbi HR d (m.now+(Zi q:Nat)));obtain⟨v,hv⟩:∃v,(2:Int)^5=v:=⟨_,rfl⟩;rw[hv]at l ⊢;rw[<-l]at t;have s:v=32:=(by rw[<-hv];rfl);subst s;have u:=ze l;clear hv l Q V;go_wp2_with fail;go_end0;refine⟨rfl,fend HQ HK ?_⟩;rw[<-ud u];exact t
  ·obtain rfl:k=q:=(by omega);have l:((2:Int)^k)=(Zi k:Nat):=(by unfold Zi;rw[show min k 5=k by omega];simp);rw[l]at Q V ⊢;have hd:decide ((k:Int)<k)=false:=(by simp);have t:=ze (zbi HR d (m.now+(Zi k:Nat)));go_wp2_with fail;go_end0;exact⟨rfl,fend HQ HK t⟩
def zcE(now:Int)(x:Tk):Tk:=if 0<=x.slot/\x.till<=now then x.fail now else x
def Xt(now:Int)(l:List Tk)(i:Nat):List Tk:=(l.take i).map (zcE now)++l.drop i
theorem Ki(now:Int)(l:List Tk)(i:Nat):(Xt now l i).length=l.length:=by unfold Xt;simp;omega
theorem zhU(now:Int)(l:List Tk):Xt now l l.length=l.map (zcE now):=by unfold Xt;simp
theorem JP(h:l[i]?=J x):(Xt now l i)[i]?=J x:=by
 have a:i<l.length:=(List.getElem?_eq_some_iff.1 h).1;unfold Xt;rw[List.getElem?_append_right (by simp;omega)];simp only[List.length_map,List.length_take,List.getElem?_drop];rw[show i+(i-min i l.length)=i by omega];exact h
theorem VR(h:l[i]?=J x):Xt now l (i+1)=(Xt now l i).set i (zcE now x):=by
 obtain⟨a,b⟩:=List.getElem?_eq_some_iff.1 h;unfold Xt;rw[List.take_succ_eq_append_getElem a,b,List.map_append,List.append_assoc,List.set_append_right _ _ (by simp;omega),List.drop_eq_getElem_cons a,b];simp only[List.length_map,List.length_take,List.map_cons,List.map_nil];rw[show i-min i l.length=0 by omega];simp
theorem VQ(h:l[i]?=J x)(c:¬(0<=x.slot/\x.till<=now)):Xt now l (i+1)=Xt now l i:=by
 rw[VR h];have e:zcE now x=x:=by unfold zcE;rw[if_neg c]
 rw[e];obtain⟨a,b⟩:=List.getElem?_eq_some_iff.1 (JP (now:=now) h);rw[<-b];exact List.set_getElem_self a
def RM.tickL(m:RM)(n:Int):RM×Int:=if n<1\/1000<n\/100000<m.now+n then(m,5)else({m with now:=m.now+n,tg:=m.tg.map (zcE (m.now+n))}.settled,0)
theorem Qv{n:Int}(h:n<1\/1000<n\/100000<m.now+n):m.tickL n=(m,5):=by simp[RM.tickL,h]
theorem zfj{n:Int}(h:¬(n<1\/1000<n\/100000<m.now+n)):m.tickL n=({m with now:=m.now+n,tg:=m.tg.map (zcE (m.now+n))}.settled,0):=by unfold RM.tickL;rw[if_neg h]
theorem zjJ(h:zR B w p m tv nv pv gv kv)(hB:B<=w.1.size)(hc:m.c.ok)(ac:m.nu.length<=1000000000)(a7:m.gone.length<=1000000000000)(ae:m.pub.length<=1000000000000)(aa:m.tg.length<=1000000000)(ad:∀x∈m.nu,x.ok)(M:0<=m.now/\m.now<=100000)(P:∀x∈m.tg,0<=x.tc/\x.tc<=1000000000)(n:Int)(hn: -9223372036854775808<=n/\n<=9223372036854775807):
  Calls prog 212 #[(O p),I n] w fun e w'=>e=.returned (I (m.tickL n).2)/\∃q,zR B w' p (m.tickL n).1 tv nv pv gv q/\zj (fun k=>k=p\/kv.ownBlock=J k) w w'/\∀k,q.ownBlock=J k->kv.ownBlock=J k\/w.1.size<=k:=by
 obtain⟨ap,aq⟩:=hn;obtain⟨aw,ax⟩:=M;obtain⟨r7,r8,r9,ai,Z,aj,al⟩:=h.rest;have hp:=h.lt;have rf:∀j,w.frozen? (U p j)=false:=fun j=>zI h.head j;have H:=ze h;have a4:=ze P;obtain⟨ak,ck,ab⟩:=zq h.krow;subst ab;clear r8 r9 ai Z aj al h P;by_cases h1:n<1
 ·rw[Qv (.inl h1)];go_in;go_wp2_with fail;go_ret;exact⟨rfl,_,H,zj.refl _ _,fun k z=> .inl z⟩
 by_cases h2:1000<n
 ·rw[Qv (.inr (.inl h2))];go_in;go_wp2_with fail;go_ret;exact⟨rfl,_,H,zj.refl _ _,fun k z=> .inl z⟩
 by_cases h3:100000<m.now+n
 ·rw[Qv (.inr (.inr h3))];go_in;go_wp2_with fail;go_ret;exact⟨rfl,_,H,zj.refl _ _,fun k z=> .inl z⟩
 have HT:=ze (zfj (m:=m) (n:=n) (by omega));have H1:=ze (H.setNow (m.now+n));have a0:=ze (zk (i:=7) (v:=I (m.now+n)) (zj.refl (fun k=>k=p\/(Value.slice ak m.tg.length ck).ownBlock=J k) w) (.inl rfl));rw[ud HT];go_in;go_wp2_with fail;generalize(w.setCell (U p 7) (I (m.now+n)))=W at*;clear H r7 rf hp HT;go_loopw [5] (fun y wr=>∃(i:Nat),i<=m.tg.length/\y=I i/\zR B wr p {m with now:=m.now+n,tg:=Xt (m.now+n) m.tg i} tv nv pv gv (.slice ak m.tg.length ck)/\zj (fun k=>k=p\/(Value.slice ak m.tg.length ck).ownBlock=J k) w wr) (fun y _=>m.tg.length-(intOf y).toNat);case atStart=>exact⟨0,Nat.zero_le _,rfl,by simpa[Xt]using ud H1,ud a0⟩
 case round=>
  obtain⟨i,hi,rfl,r,hK⟩:=hrel;obtain⟨r7,-,-,-,Z,-,-⟩:=r.rest;dsimp only at r7;have ar:=r.lt;have F:=ze hK;clear hK;by_cases a8:i<m.tg.length
  ·obtain⟨x,hx⟩:=xC a8;have ag:=ud a4 x (List.mem_of_getElem? hx);have K:wr.ownsRow B 294 11 (.slice ak m.tg.length ck) (Xt (m.now+n) m.tg i).length ((Xt (m.now+n) m.tg i).flatMap tkV):=r.krow;obtain⟨gt,am,ah,_,an,-,-,-,-,-,-,-,-,-,y9,ay⟩:=X9 K (JP hx);injection ah with Q V X;subst Q X;have HR:=ze r;have HX:=ze hx;have ao:(i:Int)<m.tg.length:=(by omega);have E:Nonempty (zm wr.1.size wr):=zm.some _ _;have C:=fun(u:zm wr.1.size wr) b o h=>u.cell b o h;clear hx V K r;by_cases hs:0<=x.slot
   ·by_cases ht:x.till<=m.now+n
    ·have a5:=ze (VR (now:=m.now+n) HX);go_wp2_with fail;refine zh wr.1.size (by kernel_rfl) (by kernel_rfl) ?_;repeat(go_big_quiet_step (fail))
     refine wpQuiet_nil ?_;rintro⟨w2,a⟩;dsimp only;clear C E;have g:=ze (F.trans (zj.of_below (f:=fun _=>False) a) (fun _ _ e=>e.elim));have l:=ze (HR.later a);have t:=HR.later a;rw[<-Ki (m.now+n) m.tg i]at t;have HF:=ze (Jr t (by rw[Ki];exact aa) (JP (ud HX)) ag (by dsimp only;omega));clear a t;go_wp2_with fail;refine HF.mono ?_;rintro e w3 ⟨rfl,s,G⟩;rw[Ki]at s;have a2:=ze s;have a1:=ze ((ud g).trans G (fun k _ e=> .inr (by rw[e];rfl)));clear s G HF l g;go_wp2_with fail;go_roundw;case rel=>
      refine⟨i+1,by omega,by go_num,?_,a1⟩;have e:zcE (m.now+n) x=x.fail (m.now+n):=(by unfold zcE;rw[if_pos ⟨hs,ht⟩]);rw[ud a5,e];exact a2
     case measure=>simp[intOf];omega
    ·have av:decide (x.till<=m.now+n)=false:=(by simp;omega);have d:=ze (VQ (now:=m.now+n) HX (by omega));go_wp2_with fail;refine zh wr.1.size (by kernel_rfl) (by kernel_rfl) ?_;repeat(go_big_quiet_step (fail))
     refine wpQuiet_nil ?_;rintro⟨w2,a⟩;dsimp only;clear C E;have g:=ze (F.trans (zj.of_below (f:=fun _=>False) a) (fun _ _ e=>e.elim));have l:=ze (HR.later a);clear a;go_wp2_with fail;go_roundw;case rel=>exact⟨i+1,by omega,by go_num,by rw[ud d];exact ud l,g⟩
     case measure=>simp[intOf];omega
   ·have au:decide (0<=x.slot)=false:=(by simp;omega);have d:=ze (VQ (now:=m.now+n) HX (by omega));go_wp2_with fail;refine zh wr.1.size (by kernel_rfl) (by kernel_rfl) ?_;repeat(go_big_quiet_step (fail))
    refine wpQuiet_nil ?_;rintro⟨w2,a⟩;dsimp only;clear C E;have g:=ze (F.trans (zj.of_below (f:=fun _=>False) a) (fun _ _ e=>e.elim));have l:=ze (HR.later a);clear a;go_wp2_with fail;go_roundw;case rel=>exact⟨i+1,by omega,by go_num,by rw[ud d];exact ud l,g⟩
    case measure=>simp[intOf];omega
  ·obtain rfl:i=m.tg.length:=(by omega);rw[zhU]at r;have a3:=ze (ZW r (by have:=F.size;omega) hc ac a7 ae (by simpa using(by omega:m.tg.length<=1000000000000)) ad (by show 0<=m.now+n/\m.now+n<=100000;omega));clear r;go_wp2_with fail;refine a3.mono ?_;rintro e w3 ⟨rfl,q,af,a9,a6⟩;go_wp2_with fail;go_ret;refine⟨rfl,q,af,F.trans a9 (fun _ _ h=> .inl h),fun k z=> .inr ?_⟩;have:=a6 k z;have:=F.size;omega
def Tk.holds(ep num:Int)(x:Tk):Bool:=decide (0<=x.slot)&&(decide (x.ep=ep)&&decide (x.num=num))
def jV(l:List Tk)(ep num:Int):Int:=match l.findIdx? (Tk.holds ep num)with
 |some i=>i
 |none=> -1
theorem zfQ(d:l[i]?=J x)(h:x.holds ep num=true)(hn:∀j,j<i->∀y,l[j]?=J y->y.holds ep num=false):jV l ep num=i:=by
 obtain⟨b,a⟩:=List.getElem?_eq_some_iff.1 d;have:l.findIdx? (Tk.holds ep num)=J i:=by
  rw[List.findIdx?_eq_some_iff_getElem];refine⟨b,by rw[a];exact h,fun j c=>?_⟩;have:=hn j c _ (List.getElem?_eq_getElem (by omega));simp[this]
 unfold jV;rw[this]
theorem zfR(hn:∀j,j<l.length->∀y,l[j]?=J y->y.holds ep num=false):jV l ep num= -1:=by
 have:l.findIdx? (Tk.holds ep num)=R:=by
  rw[List.findIdx?_eq_none_iff];intro x b;obtain⟨j,a,e⟩:=List.getElem_of_mem b;exact hn j a x (by rw[List.getElem?_eq_getElem a,e])
 unfold jV;rw[this]
theorem Va(h:zR B w p m tv nv pv gv kv)(a2:m.tg.length<=1000000000)(ep num:Int):
  Calls prog 251 #[(O p),.agg #[I ep,I num]] w (Rz w (I (jV m.tg ep num))):=by
 obtain⟨ak,ck,G⟩:=zq h.krow;subst G;have H:=ze h;clear h;go_in;go_wp2_with fail;go_loopw [5] (fun y wr=>∃(k:Nat),k<=m.tg.length/\y=I k/\(∀j,j<k->∀x,m.tg[j]?=J x->x.holds ep num=false)/\L (w.1.size+1) (w.alloc (.cells #[I ep,I num] 49)) wr) (fun y _=>m.tg.length-(intOf y).toNat);case atStart=>exact⟨0,Nat.zero_le _,rfl,fun j F=>absurd F (Nat.not_lt_zero _),A _ _⟩
 case round=>
  obtain⟨k,hk,rfl,ha,v⟩:=hrel;have E:=ze ha;clear ha;have i:B_ w wr:=((A _ _).alloc (N _) _).trans (v.mono (by omega));have a6:w.1.size<wr.1.size:=by have:=v.size;simp at this;omega
  have r:=(v.block w.1.size (by omega)).trans (zo w _);obtain⟨s0,s1,-⟩:=zc r;clear r;have z:=H.later i;obtain⟨-,-,-,-,a7,-,-⟩:=z.rest;have a4:=z.lt;by_cases K:k<m.tg.length
  ·obtain⟨x,V⟩:=xC K;obtain⟨g,a0,hv,_,a1,-,-,-,-,-,-,-,y7,y8,y9,-⟩:=X9 z.krow V;injection hv with P Q U;subst P U;have Z:=ze V;have a3:(k:Int)<m.tg.length:=(by omega);clear V z Q;have q:Nonempty (zm wr.1.size wr):=zm.some _ _;have n:=fun(u:zm wr.1.size wr) b o h=>u.cell b o h;have d:x.holds ep num=false->∀(w1:T),B_ wr w1->∃(X:Nat),X<=m.tg.length/\I ((k:Int)+1)=I X/\(∀j,j<X->∀x,m.tg[j]?=J x->x.holds ep num=false)/\L (w.1.size+1) (w.alloc (.cells #[I ep,I num] 49)) w1:=fun W w1 a=>by
    refine⟨k+1,by omega,by go_num,fun j F y s=>?_,v.trans (a.mono (by omega))⟩;by_cases e:j=k
    ·subst e;rw[ud Z]at s;cases s;exact W
    ·exact ud E j (by omega) y s
   have c:=ze d;have t:=ze i;clear d v i;by_cases hs:0<=x.slot
   ·by_cases C:x.ep=ep
    ·by_cases M:x.num=num
     ·have f:=ze (zfQ Z (by unfold Tk.holds;simp[hs,C,M]) (ud E));subst C M;go_wp2_with fail;refine zh wr.1.size (by kernel_rfl) (by kernel_rfl) ?_;repeat(go_big_quiet_step (fail))
      refine wpQuiet_nil ?_;rintro⟨w1,a⟩;clear n q;dsimp only;go_wp2_with fail;go_ret;exact⟨by rw[ud f];rfl,t.trans (a.mono t.size)⟩
     ·have f:Hid (x.holds ep num=false):=(by show x.holds ep num=false;unfold Tk.holds;simp[M]);subst C;go_wp2_with fail;refine zh wr.1.size (by kernel_rfl) (by kernel_rfl) ?_;repeat(go_big_quiet_step (fail))
      refine wpQuiet_nil ?_;rintro⟨w1,a⟩;clear n q;dsimp only;go_wp2_with fail;go_roundw;case rel=>exact ud c f w1 a
      case measure=>simp[intOf];omega
    ·have f:Hid (x.holds ep num=false):=(by show x.holds ep num=false;unfold Tk.holds;simp[C]);go_wp2_with fail;refine zh wr.1.size (by kernel_rfl) (by kernel_rfl) ?_;repeat(go_big_quiet_step (fail))
     refine wpQuiet_nil ?_;rintro⟨w1,a⟩;clear n q;dsimp only;go_wp2_with fail;go_roundw;case rel=>exact ud c f w1 a
     case measure=>simp[intOf];omega
   ·have f:Hid (x.holds ep num=false):=(by show x.holds ep num=false;unfold Tk.holds;simp[hs]);have a5:decide (0<=x.slot)=false:=(by simp;omega);go_wp2_with fail;refine zh wr.1.size (by kernel_rfl) (by kernel_rfl) ?_;repeat(go_big_quiet_step (fail))
    refine wpQuiet_nil ?_;rintro⟨w1,a⟩;clear n q;dsimp only;go_wp2_with fail;go_roundw;case rel=>exact ud c f w1 a
    case measure=>simp[intOf];omega
  ·have f:=ze (zfR (l:=m.tg) (ep:=ep) (num:=num) (fun j F y hy=>ud E j (by omega) y hy));go_wp2_with fail;go_ret;exact⟨by rw[ud f];rfl,i⟩
theorem Qh(l:List Tk)(ep num:Int):(l.findIdx? (Tk.holds ep num)=R/\jV l ep num= -1)\/∃(i:Nat) (x:Tk),l[i]?=J x/\x.holds ep num=true/\l.findIdx? (Tk.holds ep num)=J i/\jV l ep num=i:=by
 cases h:l.findIdx? (Tk.holds ep num)with
 |none=>exact .inl ⟨rfl,by unfold jV;rw[h]⟩
 |some i=>
  obtain⟨b,a,_⟩:=List.findIdx?_eq_some_iff_getElem.1 h
  exact .inr ⟨i,l[i],List.getElem?_eq_getElem b,a,rfl,by unfold jV;rw[h]⟩
def RM.fail(m:RM)(ep num:Int):RM×Int:=match m.tg.findIdx? (Tk.holds ep num)with
 |some i=>({m with tg:=m.tg.modify i (Tk.fail m.now)},0)
 |none=>(m,8)
theorem Jb(f:Tk->Tk)(h:l[i]?=J x):l.modify i f=l.set i (f x):=by
 obtain⟨a,b⟩:=List.getElem?_eq_some_iff.1 h;apply List.ext_getElem?;intro j;rw[List.getElem?_modify,List.getElem?_set];by_cases e:i=j
 ·subst e;simp[b,a]
 ·simp[e]
theorem zjC(h:zR B w p m tv nv pv gv kv)(l:m.tg.length<=1000000000)(n:0<=m.now/\m.now<=100000)(o:∀x∈m.tg,0<=x.tc/\x.tc<=1000000000)(ep num:Int):
  Calls prog 215 #[(O p),.agg #[I ep,I num]] w fun e w'=>e=.returned (I (m.fail ep num).2)/\zR B w' p (m.fail ep num).1 tv nv pv gv kv/\zj (fun k=>kv.ownBlock=J k) w w':=by
 have d:B_ w (w.alloc (.cells #[I ep,I num] 49)):=(A _ _).alloc (N _) _;have v:=zo w (.cells #[I ep,I num] 49);obtain⟨G,K,-⟩:=zc v;have cl:=zd v;have q:=ze (Va (h.later d) l ep num);have b:=ze d;clear v d;rcases Qh m.tg ep num with⟨r,j⟩|⟨i,x,f,r,j,z⟩
 ·have s:Hid (m.fail ep num=(m,8)):=by show m.fail ep num=(m,8);unfold RM.fail;rw[r]
  rw[j]at q;rw[ud s];have H:=ze h;clear h r j;go_in;go_wp2_with fail;refine q.mono ?_;rintro e w1 ⟨rfl,c⟩;go_wp2_with fail;go_ret;have a:=b.trans (c.mono b.size);exact⟨rfl,H.later a,zj.of_below a⟩
 ·have s:Hid (m.fail ep num=({m with tg:=m.tg.set i (x.fail m.now)},0)):=by show m.fail ep num=_;unfold RM.fail;rw[j];simp only;rw[Jb _ f]
  rw[z]at q;rw[ud s];obtain⟨g,cap,hv,-⟩:=X9 h.krow f;subst hv;have H:=ze h;have F:i<m.tg.length:=(List.getElem?_eq_some_iff.1 f).1;have y:=ze f;have u:=ze (o x (List.mem_of_getElem? f));clear h r j f o;go_in;go_wp2_with fail;refine q.mono ?_;rintro e w1 ⟨rfl,c⟩;have a:=b.trans (c.mono b.size);have t:=ze (Jr (H.later a) l y u n);go_wp2_with fail;refine t.mono ?_;rintro e w2 ⟨rfl,E,C⟩;go_wp2_with fail;go_ret;exact⟨rfl,E,(zj.of_below a).trans C (fun k _ e=>by rw[e];rfl)⟩
abbrev tkA(x:Tk):S:=.agg (yZz x)
theorem zfl(x:Tk)(w:T):
  Calls prog 222 #[tkA x] w (Rz w (tkA x)):=by
 have b:=zo w (.cells (yZz x) 294);obtain⟨h,i,j,k,l,m,n,o,p,q,g⟩:=xQ (f:=x) b;have bl:=zd b;obtain⟨-,c,a,-⟩:=box2 w (.cells (yZz x) 294) (.cells (yZz x) 51);have e:=ze c;have d:=ze a;clear b c a;go_in;go_wp2_with fail;refine bodyPost_ret (v:=tkA x) (results_cell_row results222 _ _ (w.1.size+1) _ _ _ _ rfl e underlying51 rfl (by kernel_rfl)) rfl ?_;exact⟨rfl,d⟩
theorem Tryz.infoJobR:(prog.info? 51).map (fun i=>(i.zero,i.size,i.bytes))=J (J (.agg #[I 0,I 0,I 0,I 0,I 0,I 0,I 0,I 0,I 0,I 0,I 0]),11,88):=by kernel_rfl
theorem zjr(f:o.guard=R)(s y:Operand)(m:o.op=.call {callee:=.builtin .append,args:=#[s,y],argTypes:=#[55,55]})(base:Nat)(v:S)(l:List Tk)(x:Tk)(n:Nat)(p:a.eval s=v)(c:w.ownsRow base 51 11 v n (l.flatMap tkV))(d:Nat)(q:a.eval y=.slice (J (U d 0)) 1 1)(e:w.1[d]?=J (.cells (yZz x) 51 (0,0)))(u:n<=1000000000)(b:base<=w.1.size)(h:∀g cap w',w'.ownsRow base 51 11 (.slice (J (U g 0)) (n+1) cap) (n+1) ((l++[x]).flatMap tkV)->w.grownBy w' v.ownBlock->g<w'.1.size->wpList prog ops Q rest (a.put o.dst (.slice (J (U g 0)) (n+1) cap)) w'):wpList prog ops Q (o::rest) a w:=
 zO f s y 55 m base 51 _ 11 88 underlying55 Tryz.infoJobR rfl (by decide) v n (l.flatMap tkV) p c (U d 0) 1 1 (tkV x) q rfl
  (World.news_of_block (cs:=(tkV x).toArray) e) (Y9 x) (by decide) (by simp only[maxLen];omega) (by omega) b
  fun g cap w' i r j t k=>h g cap w' (by rw[List.flatMap_append];simpa using i) j k
theorem zjE(h:zR B w p m tv nv pv gv kv)(a3:m.tg.length<=1000000000):
  Calls prog 146 #[(O p)] w fun e w'=>∃v,e=.returned v/\w'.ownsRow w.1.size 51 11 v m.tg.length (m.tg.flatMap tkV)/\B_ w w':=by
 obtain⟨ak,ck,C⟩:=zq h.krow;subst C;have H:=ze h;clear h;go_in;go_wp2_with fail;go_loopw [3,4,5] (fun z y _ wr=>∃(k:Nat) (v:S),k<=m.tg.length/\y=I k/\z=v/\wr.ownsRow w.1.size 51 11 v k ((m.tg.take k).flatMap tkV)/\B_ w wr) (fun _ y _ _=>m.tg.length-(intOf y).toNat);case atStart=>exact⟨0,_,Nat.zero_le _,rfl,rfl,by simpa using World.ownsRow_nil _ _ _ _,A _ _⟩
 case round=>
  obtain⟨k,v,hk,rfl,rfl,n,d⟩:=hrel;obtain⟨az,cz,hv⟩:=zq n;subst hv;have l:=H.later d;obtain⟨-,-,-,-,a8,-,-⟩:=l.rest;have a5:=l.lt;by_cases F:k<m.tg.length
  ·obtain⟨x,P⟩:=xC F;obtain⟨g,X,hv,_,a2,y0,y1,y2,y3,y4,y5,y6,y7,y8,y9,V⟩:=X9 l.krow P;injection hv with G K M;subst G M;have HX:=ze P;have a4:(k:Int)<m.tg.length:=(by omega);have W:=ze (zfl x wr);have t:=ze n;have o:=ze d;have a7:=d.size;clear P l K n d;go_wp2_with fail;refine W.mono ?_;rintro e w2 ⟨rfl,b⟩;have q:=ze b;have i:=ze (zi (zi t (zj.of_below (f:=fun _=>False) b) (fun _ _ e=>e)) (zj.of_below (f:=fun _=>False) ((A w2.1.size w2).alloc (N _) (.cells (yZz x) 51))) (fun _ _ e=>e));have a6:=b.size;have U:=zo w2 (.cells (yZz x) 51);obtain⟨b0,b1,b2,b3,b4,b5,b6,b7,b8,b9,a1,-⟩:=zc U;have bl:=zd U;have bz:=zE w2 (.cells (yZz x) 51);clear b W y0 y1 y2 y3 y4 y5 y6 y7 y8 y9 V U;go_wp2_with(first|(at_builtin;refine zjr rfl _ _ rfl w.1.size _ (m.tg.take k) x k rfl (i.alloc _) (w2.1.size+1) rfl ?hq ?hll ?hbb ?_;(case hq=>(have:=zo (w2.alloc (.cells (yZz x) 51)) (.cells (yZz x) 51);rw[zE]at this;exact this));(case hll=>omega);(case hbb=>(rw[zE,zE];omega));intro g2 Z w3 c a a0;have s:=ze c;have r:=ze a;clear c a)|fail);go_roundw;case rel=>
    obtain⟨E,Q⟩:=List.getElem?_eq_some_iff.1 HX;refine⟨k+1,_,by omega,by go_num,rfl,?_,?_⟩
    ·rw[List.take_succ_eq_append_getElem E,Q];exact s
    ·have hbb:B_ w w2:=o.trans (q.mono o.size);exact((hbb.alloc hbb.size _).alloc (by rw[zE];omega) _).grown (ud r) (by rw[zE,zE];omega) (fun j e=>(i.lt j e).1)
   case measure=>simp[intOf];omega
  ·have u:k=m.tg.length:=(by omega);subst u;have t:=ze n;have o:=ze d;clear n d l;go_wp2_with fail;go_ret;exact⟨_,rfl,by simpa using ud t,ud o⟩
def RM.due(m:RM)(x:Tk):Int:=if x.kind=2 then m.c.end x.s+m.c.keep x.s.t else m.c.end x.s
theorem VP(f:m.c.ok)(i:zjT m.c x.s):0<=m.due x/\m.due x<=100002000:=by
 obtain⟨d,e,g,h⟩:=i;have a:=f.ends d e g h;have b:=f.keeps d e;unfold RM.due;split<;>omega
theorem YQ(h:zR B w p m tv nv pv gv kv)(o:m.c.ok)(x:Tk)(M:zjT m.c x.s):
  Calls prog 279 #[(O p),tkA x] w (Rz w (I (m.due x))):=by
 obtain⟨l,n,v,y⟩:=M;have a:=o.ends l n v y;have b:=o.keeps l n;have g:B_ w (w.alloc (yx x)):=(A _ _).alloc (N _) _;have k:=zo w (yx x);have r:=ze (JO (h.later g) o x.s l n v y);have K:=k;unfold yx at g k r;obtain⟨C,E,P,Q,-⟩:=xQ (f:=x) k;have bl:=zd k;have i:=ze g;have H:=ze h;clear h K k g;go_in;go_wp2_with fail;refine r.mono ?_;rintro e w1 ⟨rfl,d⟩;have z0:=(d.cell (p:=(U w.1.size 0)) bl).trans C;have V:=(d.cell (p:=(U w.1.size 1)) bl).trans E;have G:=Y bl d.size;have j:=i.trans (d.mono i.size);have F:=ze (zab (H.later j) o x.s.t l n);have u:=ze j;clear d j C E P Q bl r i;by_cases z:x.kind=2
 ·have q:Hid (m.due x=m.c.end x.s+m.c.keep x.s.t):=by show m.due x=_;unfold RM.due;rw[if_pos z]
  go_wp2_with fail;refine F.mono ?_;rintro e w2 ⟨rfl,rfl⟩;go_wp2_with fail;go_ret;exact⟨by rw[ud q];rfl,u⟩
 ·have q:Hid (m.due x=m.c.end x.s):=by show m.due x=_;unfold RM.due;rw[if_neg z]
  go_wp2_with fail;go_ret;exact⟨by rw[ud q];rfl,u⟩
def RM.pressR(m:RM)(x:Tk):Int:=m.due x-(m.now-x.si).tdiv 4
def RM.aheadB(m:RM)(c:Bool)(a b:Tk):Bool:=if c=true/\a.kind≠b.kind then decide (a.kind=2)else if m.pressR a≠m.pressR b then decide (m.pressR a<m.pressR b)else qw a b
theorem zpg(a b:Tk)(w:T):((w.alloc (yx a)).alloc (yx b)).1[w.1.size]?=J (yx a)/\((w.alloc (yx a)).alloc (yx b)).1[w.1.size+1]?=J (yx b)/\B_ w ((w.alloc (yx a)).alloc (yx b))/\((w.alloc (yx a)).alloc (yx b)).1.size=w.1.size+2:=box2 w (yx a) (yx b)
theorem zjt{n s:Int}(a:0<=s)(b:s<=n)(c:n<=100000):0<=(n-s).tdiv 4/\(n-s).tdiv 4<=100000:=by
 rw[Int.tdiv_eq_ediv_of_nonneg (by omega)];omega
theorem zgD(h:zR B w p m tv nv pv gv kv)(hc:m.c.ok)(H:0<=m.now/\m.now<=100000)(a b:Tk)(ha:zjT m.c a.s)(hb:zjT m.c b.s)(aa:0<=a.si/\a.si<=m.now)(g:0<=b.si/\b.si<=m.now)(q:Bool):
  Calls prog 250 #[(O p),tkA a,tkA b,.bool q] w (Rz w (.bool (m.aheadB q a b))):=by
 obtain⟨i,j,ab,ag⟩:=zpg a b w;obtain⟨a0,a1,a2,a3,a4,a5,a6,a7,a8,a9,ae⟩:=xQ i;obtain⟨b0,b1,b2,b3,b4,b5,b6,b7,b8,b9,af⟩:=xQ j;have al:=zd i;have bl:=zd j;have hX:=h.later ab;obtain⟨r7,-⟩:=hX.rest;have x:=hX.lt;have HX:=ze hX;have E:=ze ab;have r:=ze i;have t:=ze j;obtain⟨au,av⟩:=zjt aa.1 aa.2 H.2;obtain⟨aw,ax⟩:=zjt g.1 g.2 H.2;obtain⟨ah,ai⟩:=VP hc ha;obtain⟨aj,ak⟩:=VP hc hb;obtain⟨am,an⟩:=aa;obtain⟨v,ao⟩:=g;obtain⟨aq,ar⟩:=H;unfold yx at*;clear h hX ab i j ag;go_in;rcases Bool.eq_false_or_eq_true q with ht|ht
 ·subst ht;by_cases hk:a.kind=b.kind
  ·have ap:(a.kind !=b.kind)=false:=(by simp[hk]);have y:Hid (m.pressR a=m.pressR b->m.aheadB true a b=qw a b):=fun e=> (by unfold RM.aheadB;rw[if_neg (by simp[hk]),if_neg (by simp[e])]);have z:Hid (¬m.pressR a=m.pressR b->m.aheadB true a b=decide (m.pressR a<m.pressR b)):=fun e=> (by unfold RM.aheadB;rw[if_neg (by simp[hk]),if_pos e]);have F:=fun W (hW:L _ _ W)=>ze (YQ (HX.later hW) hc a ha);clear hk;go_wp2_with fail;generalize((w.alloc (.cells (yZz a) 294)).alloc (.cells (yZz b) 294))=X at*;have n:Nonempty (zm X.1.size X):=zm.some _ _;have l:=fun(u:zm X.1.size X) b o h=>u.cell b o h;go_wp2_with fail;refine zh X.1.size (by kernel_rfl) (by kernel_rfl) ?_;repeat(go_big_quiet_step (first
    |(go_at_call 279;exact Calls.later (N _) (F _ (Subtype.property _)))))
   refine wpQuiet_nil ?_;rintro⟨w1,d⟩;dsimp only;clear l n F;rw[show m.due a-(m.now-a.si).tdiv 4=m.pressR a from rfl];have i:=(d.block w.1.size al).trans r;have j:=(d.block (w.1.size+1) bl).trans t;obtain⟨s0,s1,s2,s3,s4,s5,s6,s7,s8,s9,K⟩:=xQ (f:=a) i;obtain⟨t0,t1,t2,t3,t4,t5,t6,t7,t8,t9,M⟩:=xQ (f:=b) j;have r:=ze i;have t:=ze j;have q7:=(d.cell (p:=(U p 7)) x).trans r7;have qp:=Y x d.size;have qa:=Y al d.size;have qb:=Y bl d.size;have C:=ze d;have Z:=ze (HX.later d);have G:=fun W (hW:B_ w1 W)=>ze (YQ (Z.later hW) hc b hb);have n:Nonempty (zm w1.1.size w1):=zm.some _ _;have l:=fun(u:zm w1.1.size w1) b o h=>u.cell b o h;clear d a0 a1 a2 a3 a4 a5 a6 a7 a8 a9 ae b0 b1 b2 b3 b4 b5 b6 b7 b8 b9 af al bl x r7 i j;generalize ac:m.pressR a=pa at*;go_wp2_with fail;refine zh w1.1.size (by kernel_rfl) (by kernel_rfl) ?_;repeat(go_big_quiet_step (first
    |(go_at_call 279;exact Calls.later (N _) (G _ (Subtype.property _)))))
   refine wpQuiet_nil ?_;rintro⟨w2,g⟩;dsimp only;clear l n G;rw[show m.due b-(m.now-b.si).tdiv 4=m.pressR b from rfl];have i:=(g.block w.1.size qa).trans r;have j:=(g.block (w.1.size+1) qb).trans t;clear s0 s1 s2 s3 s4 s5 s6 s7 s8 s9 K t0 t1 t2 t3 t4 t5 t6 t7 t8 t9 M;obtain⟨s0,s1,s2,s3,s4,s5,s6,s7,s8,s9,K⟩:=xQ (f:=a) i;obtain⟨t0,t1,t2,t3,t4,t5,t6,t7,t8,t9,M⟩:=xQ (f:=b) j;have va:=zd i;have vb:=zd j;have V:=ze (zae a b w2);have k:=ze (E.trans ((C.trans (g.mono C.size)).mono E.size));generalize ad:m.pressR b=pb at*;clear i j g ac ad;by_cases I:pa=pb
   ·have P:=ze (ud y I);clear y;go_wp2_with fail;refine V.mono ?_;rintro e w3 ⟨rfl,v⟩;have Q:=ze (k.trans (v.mono k.size));clear v;go_wp2_with fail;go_ret;exact⟨by rw[ud P];rfl,Q⟩
   ·have P:=ze (ud z I);clear z;go_wp2_with fail;go_ret;exact⟨by rw[ud P];rfl,k⟩
  ·have P:Hid (m.aheadB true a b=decide (a.kind=2)):=(by show m.aheadB true a b=_;unfold RM.aheadB;rw[if_pos ⟨rfl,hk⟩]);go_wp2_with fail;go_ret;exact⟨by rw[ud P];rfl,E⟩
 ·subst ht;have y:Hid (m.pressR a=m.pressR b->m.aheadB false a b=qw a b):=fun e=>by unfold RM.aheadB;rw[if_neg (by simp),if_neg (by simp[e])]
  have z:Hid (¬m.pressR a=m.pressR b->m.aheadB false a b=decide (m.pressR a<m.pressR b)):=fun e=>by unfold RM.aheadB;rw[if_neg (by simp),if_pos e]
  have F:=fun W (hW:L _ _ W)=>ze (YQ (HX.later hW) hc a ha);go_wp2_with fail;generalize((w.alloc (.cells (yZz a) 294)).alloc (.cells (yZz b) 294))=X at*;have n:Nonempty (zm X.1.size X):=zm.some _ _;have l:=fun(u:zm X.1.size X) b o h=>u.cell b o h;go_wp2_with fail;refine zh X.1.size (by kernel_rfl) (by kernel_rfl) ?_;repeat(go_big_quiet_step (first
   |(go_at_call 279;exact Calls.later (N _) (F _ (Subtype.property _)))))
  refine wpQuiet_nil ?_;rintro⟨w1,d⟩;dsimp only;clear l n F;rw[show m.due a-(m.now-a.si).tdiv 4=m.pressR a from rfl];have i:=(d.block w.1.size al).trans r;have j:=(d.block (w.1.size+1) bl).trans t;obtain⟨s0,s1,s2,s3,s4,s5,s6,s7,s8,s9,K⟩:=xQ (f:=a) i;obtain⟨t0,t1,t2,t3,t4,t5,t6,t7,t8,t9,M⟩:=xQ (f:=b) j;have r:=ze i;have t:=ze j;have q7:=(d.cell (p:=(U p 7)) x).trans r7;have qp:=Y x d.size;have qa:=Y al d.size;have qb:=Y bl d.size;have C:=ze d;have Z:=ze (HX.later d);have G:=fun W (hW:B_ w1 W)=>ze (YQ (Z.later hW) hc b hb);have n:Nonempty (zm w1.1.size w1):=zm.some _ _;have l:=fun(u:zm w1.1.size w1) b o h=>u.cell b o h;clear d a0 a1 a2 a3 a4 a5 a6 a7 a8 a9 ae b0 b1 b2 b3 b4 b5 b6 b7 b8 b9 af al bl x r7 i j;generalize ac:m.pressR a=pa at*;go_wp2_with fail;refine zh w1.1.size (by kernel_rfl) (by kernel_rfl) ?_;repeat(go_big_quiet_step (first
   |(go_at_call 279;exact Calls.later (N _) (G _ (Subtype.property _)))))
  refine wpQuiet_nil ?_;rintro⟨w2,g⟩;dsimp only;clear l n G;rw[show m.due b-(m.now-b.si).tdiv 4=m.pressR b from rfl];have i:=(g.block w.1.size qa).trans r;have j:=(g.block (w.1.size+1) qb).trans t;clear s0 s1 s2 s3 s4 s5 s6 s7 s8 s9 K t0 t1 t2 t3 t4 t5 t6 t7 t8 t9 M;obtain⟨s0,s1,s2,s3,s4,s5,s6,s7,s8,s9,K⟩:=xQ (f:=a) i;obtain⟨t0,t1,t2,t3,t4,t5,t6,t7,t8,t9,M⟩:=xQ (f:=b) j;have va:=zd i;have vb:=zd j;have V:=ze (zae a b w2);have k:=ze (E.trans ((C.trans (g.mono C.size)).mono E.size));generalize ad:m.pressR b=pb at*;clear i j g ac ad;by_cases I:pa=pb
  ·have P:=ze (ud y I);clear y;go_wp2_with fail;refine V.mono ?_;rintro e w3 ⟨rfl,v⟩;have Q:=ze (k.trans (v.mono k.size));clear v;go_wp2_with fail;go_ret;exact⟨by rw[ud P];rfl,Q⟩
  ·have P:=ze (ud z I);clear z;go_wp2_with fail;go_ret;exact⟨by rw[ud P];rfl,k⟩
def RM.freeT(m:RM)(x:Tk):Bool:=decide (x.slot<0)&&decide (x.rest<=m.now)
def RM.betterI(m:RM)(b:Option Nat)(i:Nat):Option Nat:=match m.tg[i]? with
 |none=>b
 |some x=>if m.freeT x=true then match b with
  |none=>J i
  |some j=>match m.tg[j]? with
   |none=>b
   |some y=>if m.aheadB m.tight x y=true then J i else b
  else b
def RM.bestI(m:RM)(k:Nat):Option Nat:=(List.range k).foldl m.betterI R
theorem ZI(m:RM)(k:Nat):m.bestI (k+1)=m.betterI (m.bestI k) k:=by
 unfold RM.bestI;rw[List.range_succ,List.foldl_append];rfl
theorem K0{b:Option Nat}(h:m.tg[i]?=J x)(a:m.freeT x=false):m.betterI b i=b:=by
 unfold RM.betterI;rw[h];simp[a]
theorem Zp(h:m.tg[i]?=J x)(a:m.freeT x=true):m.betterI R i=J i:=by
 unfold RM.betterI;rw[h];simp[a]
theorem VN{y:Tk}(h:m.tg[i]?=J x)(a:m.freeT x=true)(b:m.tg[j]?=J y):m.betterI (J j) i=if m.aheadB m.tight x y=true then J i else J j:=by
 unfold RM.betterI;rw[h];simp[a,b]
theorem XW(m:RM):∀(k:Nat) {j:Nat},m.bestI k=J j->j<k/\∃x,m.tg[j]?=J x/\m.freeT x=true
 |0,j,h=>by simp[RM.bestI]at h
 |k+1,j,h=>by
  rw[ZI]at h;have c:=fun{j}=>XW m k (j:=j);unfold RM.betterI at h;split at h
  ·obtain⟨a,b⟩:=c h;exact⟨by omega,b⟩
  ·rename_i x hx;split at h
   ·rename_i hf;split at h
    ·cases h;exact⟨by omega,x,hx,hf⟩
    ·rename_i j' hj';split at h
     ·obtain⟨a,b⟩:=c h;exact⟨by omega,b⟩
     ·split at h
      ·cases h;exact⟨by omega,x,hx,hf⟩
      ·obtain⟨a,b⟩:=c h;exact⟨by omega,b⟩
   ·obtain⟨a,b⟩:=c h;exact⟨by omega,b⟩
def Tk.leased(ep num slot till:Int)(x:Tk):Tk:={x with ep:=ep,num:=num,slot:=slot,till:=till}
def zaU:Tk:=⟨0,⟨0,0,0⟩,0,0,0,0,0,0,0⟩
def RM.pick(m:RM)(slot:Int):RM×Tk×Int:=if slot<0\/m.c.s<=slot then(m,zaU,6)else if m.tg.any (fun x=>x.slot==slot)=true then(m,zaU,6)else match m.bestI m.tg.length with
 |none=>(m,zaU,7)
 |some j=>({m with picks:=m.picks+1,tg:=m.tg.modify j (Tk.leased m.epoch (m.picks+1) slot (m.now+m.c.le))},Tk.leased m.epoch (m.picks+1) slot (m.now+m.c.le) ((m.tg[j]?).getD zaU),0)
theorem zno(w:T)(o:Obj)(c:Cf)(tv:S)(ep:Int):
  zN ((((w.alloc o).alloc (.map #[] 0)).alloc (.map #[] 0)).alloc (.cells #[I c.s,I c.le,I c.la,I c.wi,I c.ke,I c.qu,tv,I ep,I 0,.map (J (w.1.size+1)),.map (J (w.1.size+1+1))] 171)) (w.1.size+1+1+1) c tv ep 0 (w.1.size+1) (w.1.size+1+1) [] []:=by
 have a:=zE w o;have b:=zE (w.alloc o) (.map #[] 0);have z3:=zE ((w.alloc o).alloc (.map #[] 0)) (.map #[] 0);refine⟨?_,?_,?_,by omega⟩
 ·have h:=zo (((w.alloc o).alloc (.map #[] 0)).alloc (.map #[] 0)) (.cells #[I c.s,I c.le,I c.la,I c.wi,I c.ke,I c.qu,tv,I ep,I 0,.map (J (w.1.size+1)),.map (J (w.1.size+1+1))] 171);rw[z3,b,a]at h;exact h
 ·have h:=xn.made (M:=qh) (w.alloc o);rw[a]at h;exact(h.later ((A _ _).alloc (N _) _)).later ((A _ _).alloc (N _) _)
 ·have h:=xn.made (M:=xJ) ((w.alloc o).alloc (.map #[] 0));rw[b,a]at h;exact h.later ((A _ _).alloc (N _) _)
theorem zkT(c:Cf)(a:Option Addr)(cap:Nat)(ep:Int)(w:T):
  Calls prog 69 #[(cZz c a cap),I ep] w fun e w'=>∃b tb qb,e=.returned (O b)/\w.1.size<=b/\w.1.size<=tb/\w.1.size<=qb/\zN w' b c (.slice a c.n cap) ep 0 tb qb [] []/\B_ w w':=by
 have h:∀W:T,(Instr.makeMap 169 R).run prog W=.ok (.map (J W.1.size)) (W.alloc (.map #[] 0)):=fun W=>by kernel_rfl
 have i:∀W:T,(Instr.makeMap 168 R).run prog W=.ok (.map (J W.1.size)) (W.alloc (.map #[] 0)):=fun W=>by kernel_rfl
 go_in;go_wp2_with fail;go_ret;refine⟨w.1.size+1+1+1,w.1.size+1,w.1.size+1+1,rfl,by omega,by omega,by omega,zno w _ c _ ep,?_⟩;have d:B_ w (w.alloc (.cells (aZz c a cap) 89)):=(A _ _).alloc (N _) _;have f:=d.alloc d.size (.map #[] 0);have g:=f.alloc f.size (.map #[] 0);exact g.alloc g.size _
structure Ops where
 kd:Int
 on:Int
 a:Int
 b:Int
 c:Int
 v:Int
 te:Int
 tn:Int
 fs:Int
 fg:Int
 fe:Int
 fw:Int
 fk:Int
 fq:Int
 fa:Option Addr
 fn:Nat
 fp:Nat
abbrev qZz(k:Int)(o:Ops)(a b:Int):Array S:=#[I k,I o.on,I o.a,I o.b,I o.c,i_ o.v,I a,I b,I o.fs,I o.fg,I o.fe,I o.fw,I o.fk,I o.fq,.slice o.fa o.fn o.fp]
abbrev oZz(k:Int)(o:Ops):Array S:=qZz k o o.te o.tn
abbrev Ops.cells(o:Ops):Array S:=(oZz o.kd o)
def OS(w:T)(a:Option Addr)(n:Nat)(G:Nat->Ops):Prop:=
 0<n->∃b off,a=J (U b off)/\b<w.1.size/\∀i,i<n->w.cell? (U b (off+i*15))=J (I (G i).kd)/\w.cell? (U b (off+i*15+1))=J (I (G i).on)/\w.cell? (U b (off+i*15+2))=J (I (G i).a)/\w.cell? (U b (off+i*15+3))=J (I (G i).b)/\w.cell? (U b (off+i*15+4))=J (I (G i).c)/\w.cell? (U b (off+i*15+5))=J (i_ (G i).v)/\w.cell? (U b (off+i*15+6))=J (I (G i).te)/\w.cell? (U b (off+i*15+7))=J (I (G i).tn)/\w.cell? (U b (off+i*15+8))=J (I (G i).fs)/\w.cell? (U b (off+i*15+9))=J (I (G i).fg)/\w.cell? (U b (off+i*15+10))=J (I (G i).fe)/\w.cell? (U b (off+i*15+11))=J (I (G i).fw)/\w.cell? (U b (off+i*15+12))=J (I (G i).fk)/\w.cell? (U b (off+i*15+13))=J (I (G i).fq)/\w.cell? (U b (off+i*15+14))=J (.slice (G i).fa (G i).fn (G i).fp)
structure Ops.fits(o:Ops):Prop where
 on: -9223372036854775808<=o.on/\o.on<=9223372036854775807
 a: -9223372036854775808<=o.a/\o.a<=9223372036854775807
 v: -2147483648<=o.v/\o.v<=2147483647
 te: -9223372036854775808<=o.te/\o.te<=9223372036854775807
 tn: -9223372036854775808<=o.tn/\o.tn<=9223372036854775807
 size:24*(o.fn+1)<=281474976710656
theorem ziK(c:Int)(n:Nat)(hn:0<n):∃i:Nat,c%(n:Int)=i/\i<n:=by
 have a:=Int.emod_nonneg c (show(n:Int)≠0 by omega);have b:=Int.emod_lt_of_pos c (show(0:Int)<n by omega);exact⟨(c%(n:Int)).toNat,by omega,by omega⟩
theorem zjg(c:Int)(n:Nat)(j: -9223372036854775808<=c/\c<=9223372036854775807)(hn:0<n):
  ∃i:Nat,i<n/\∀w:T,Calls prog 79 #[I c,I n] w fun e w'=>e=.returned (I i)/\w'=w:=by
 have g:¬(n:Int)=0:=by omega
 by_cases h:c<0
 ·obtain⟨i,a,d⟩:=ziK (-(c+1)) n hn;refine⟨i,d,fun w=>?_⟩;have b:=ze a;clear a;go_in;go_wp2;go_ret;have f: -(c+1).tmod (n:Int)=(-(c+1))%(n:Int):=by rw[<-Int.neg_tmod,Int.tmod_eq_emod_of_nonneg (by omega)]
  exact⟨by show Ending.returned (I (-(c+1).tmod (n:Int)))=_;rw[f,ud b],rfl⟩
 ·obtain⟨i,a,d⟩:=ziK c n hn;refine⟨i,d,fun w=>?_⟩;have b:=ze a;clear a;go_in;go_wp2;go_ret;exact⟨by show Ending.returned (I (c%(n:Int)))=_;rw[ud b],rfl⟩
theorem zR.setPub{x:Sg}(h:zR B w p m tv nv pv gv kv)(j:∀k,pv.ownBlock=J k->¬gv.ownBlock=J k)(f:zj (fun k=>pv.ownBlock=J k) w w5)(d:w5.ownsRow B 287 3 z (m.pub++[x]).length ((m.pub++[x]).flatMap sgV)):zR B (w5.setCell (U p 9) z) p {m with pub:=m.pub++[x]} tv nv z gv kv:=by
 have c:=f.heap h.head (fun e=>zv h.head h.prow (by decide) p e rfl);have g:zj (fun k=>k=p) w5 (w5.setCell (U p 9) z):=zk (zj.refl _ _) rfl;have a1:=zi h.trow f (xZ h.trow h.prow (by decide));have a2:=zi h.nrow f (xZ h.nrow h.prow (by decide));have a3:=zi h.grow f (fun k a b=>j k b a);have a4:=zi h.krow f (xZ h.krow h.prow (by decide));exact⟨xq (i:=9) c z,h.base,zi a1 g (zv c a1 (by decide)),zi a2 g (zv c a2 (by decide)),zi d g (zv c d (by decide)),zi a3 g (zv c a3 (by decide)),zi a4 g (zv c a4 (by decide))⟩
theorem zjv(h:zR B w p m tv nv pv gv kv)(F:∀k,pv.ownBlock=J k->¬gv.ownBlock=J k)(hB:B<=w.1.size)(hc:m.c.ok)(a5:m.nu.length<=1000000000)(ah:m.gone.length<=1000000000)(aj:m.pub.length<=1000000000)(ai:m.tg.length<=1000000000)(a6:∀x∈m.nu,x.ok)(K:0<=m.now/\m.now<=100000)(s:Sg):
  Calls prog 252 #[(O p),I 1,.agg #[I s.t,I s.se,I s.we]] w fun e w'=>e=.returned (.tuple #[])/\∃z q,zR B w' p {m with pub:=m.pub++[s]}.settled tv nv z gv q/\zj (fun k=>k=p\/pv.ownBlock=J k) w w'/\(∀k,z.ownBlock=J k->pv.ownBlock=J k\/w.1.size<=k)/\∀k,q.ownBlock=J k->w.1.size<=k:=by
 obtain⟨Q,V,a7⟩:=zq h.prow;subst a7;have y:L w.1.size w (w.alloc (.cells #[I s.t,I s.se,I s.we] 287)):=(A _ _).alloc (N _) _;have q0:=zo w (.cells #[I s.t,I s.se,I s.we] 287);have E:=h.later y;have ag:=zE w (.cells #[I s.t,I s.se,I s.we] 287);obtain⟨r7,r8,r9,a8,a9,aa,ab⟩:=E.rest;have hp:=E.lt;have rf:=zI E.head 9;obtain⟨n0,n1,n2,-⟩:=zc q0;have bl:=zd q0;have H:=ze h;have HX:=ze E;have n:=ze y;have W:=ze F;clear h r7 r8 a8 a9 aa ab E y q0 F;go_enter func252,ntmps252;go_wp2_with fail;generalize(w.alloc (.cells #[I s.t,I s.se,I s.we] 287))=X at*;have r:=ze (ud HX).prow;have af:B<=X.1.size:=D hB (ud n).size;have za:∀o:Obj,(X.alloc o).cell? (U p 9)=J (.slice Q m.pub.length V):=fun o=>(((A X.1.size X).alloc (N _) o).cell (p:=(U p 9)) hp).trans r9;go_region_law (refine Vh rfl (.tmp 12) (.tmp 14) 225 287 3 24 rfl underlying225 Tryz.infoSegment rfl (by decide) B (.slice Q m.pub.length V) m.pub.length (m.pub.flatMap sgV) (by simp[Act.eval]) (ZT ((ud r).alloc _)) X.1.size (sgV s) 287 (0,0) (by simp[Act.eval];try omega) (ZS X _) rfl (zaI s) ?h63 ?hby ?hbs ?_;(case h63=>(simp only[maxLen];omega));(case hby=>omega);(case hbs=>(rw[vE];omega));intro g3 d w5 u b G ac;have f:=Z1 b;clear b;have j:zj (fun k=>(Value.slice Q m.pub.length V).ownBlock=J k) X w5:=zj.grown ((zj.refl _ _).alloc _) f (fun k C _=>C);have M:w5.1[p]?=X.1[p]?:=(j.block p hp (fun e=>zv (ud HX).head (ud r) (by decide) p e rfl));have d0:=(World.cell?_of_block (a:=(U p 9)) M).trans r9;have d1:=(World.frozen?_of_block (a:=(U p 9)) M).trans rf)
 all_goals
  have l:w5.ownsRow B 287 3 (.slice (J (U g3 0)) (m.pub.length+1) d) (m.pub++[s]).length ((m.pub++[s]).flatMap sgV):=by
   rw[List.length_append,List.flatMap_append,List.length_singleton,List.flatMap_singleton];exact u
  have H5:=ze ((ud HX).setPub (ud W) j l)
  have ae:X.1.size<=w5.1.size:=j.size
  have ad:(w5.setCell (U p 9) (.slice (J (U g3 0)) (m.pub.length+1) d)).1.size=w5.1.size:=by simp[World.setCell]
  have a2:=ze (ZW (ud H5) (by omega) hc a5 (by first|(show(m.gone++[s]).length<=1000000000000;simp;omega)|(show m.gone.length<=1000000000000;omega)) (by first|(show(m.pub++[s]).length<=1000000000000;simp;omega)|(show m.pub.length<=1000000000000;omega)) (by show m.tg.length<=1000000000000;omega) a6 K)
  have Z:=ze G
  have a0:=ze j
  clear G j u l f
  go_wp2_with fail
  refine(ud a2).mono ?_
  rintro e w6 ⟨rfl,q,P,a4,a3⟩
  have a1:=ze P
  clear P
  go_wp2_with fail
  go_end0
  refine⟨rfl,_,q,ud a1,?_,fun k C=>?_,fun k C=>?_⟩
  ·have k1:zj (fun k=>k=p\/(Value.slice Q m.pub.length V).ownBlock=J k) w X:=zj.of_below (ud n)
   have k2:=k1.trans (ud a0) (fun _ _ h=> .inr h)
   have k3:=zk (i:=9) (g:=p) (v:=.slice (J (U g3 0)) (m.pub.length+1) d) k2 (.inl rfl)
   exact k3.trans a4 (fun _ _ h=> .inl h)
  ·simp[Value.ownBlock]at C
   subst C
   rcases ud Z with h|h
   ·exact .inl h
   ·refine .inr ?_
    rw[h]
    have:=(ud n).size
    first|exact this|(rw[vE];omega)|omega
  ·have:=a3 k C
   have:=(ud n).size
   omega
theorem zR.setGone{x:Sg}(h:zR B w p m tv nv pv gv kv)(j:∀k,pv.ownBlock=J k->¬gv.ownBlock=J k)(f:zj (fun k=>gv.ownBlock=J k) w w5)(d:w5.ownsRow B 287 3 z (m.gone++[x]).length ((m.gone++[x]).flatMap sgV)):zR B (w5.setCell (U p 10) z) p {m with gone:=m.gone++[x]} tv nv pv z kv:=by
 have c:=f.heap h.head (fun e=>zv h.head h.grow (by decide) p e rfl);have g:zj (fun k=>k=p) w5 (w5.setCell (U p 10) z):=zk (zj.refl _ _) rfl;have a1:=zi h.trow f (xZ h.trow h.grow (by decide));have a2:=zi h.nrow f (xZ h.nrow h.grow (by decide));have a3:=zi h.prow f (fun k a b=>j k a b);have a4:=zi h.krow f (xZ h.krow h.grow (by decide));exact⟨xq (i:=10) c z,h.base,zi a1 g (zv c a1 (by decide)),zi a2 g (zv c a2 (by decide)),zi a3 g (zv c a3 (by decide)),zi d g (zv c d (by decide)),zi a4 g (zv c a4 (by decide))⟩
theorem zgE(h:zR B w p m tv nv pv gv kv)(F:∀k,pv.ownBlock=J k->¬gv.ownBlock=J k)(hB:B<=w.1.size)(hc:m.c.ok)(a6:m.nu.length<=1000000000)(ah:m.gone.length<=1000000000)(aj:m.pub.length<=1000000000)(ai:m.tg.length<=1000000000)(a7:∀x∈m.nu,x.ok)(K:0<=m.now/\m.now<=100000)(s:Sg):
  Calls prog 252 #[(O p),I 2,.agg #[I s.t,I s.se,I s.we]] w fun e w'=>e=.returned (.tuple #[])/\∃z q,zR B w' p {m with gone:=m.gone++[s]}.settled tv nv pv z q/\zj (fun k=>k=p\/gv.ownBlock=J k) w w'/\(∀k,z.ownBlock=J k->gv.ownBlock=J k\/w.1.size<=k)/\∀k,q.ownBlock=J k->w.1.size<=k:=by
 obtain⟨V,W,a8⟩:=zq h.grow;subst a8;have y:L w.1.size w (w.alloc (.cells #[I s.t,I s.se,I s.we] 287)):=(A _ _).alloc (N _) _;have q0:=zo w (.cells #[I s.t,I s.se,I s.we] 287);have E:=h.later y;have ag:=zE w (.cells #[I s.t,I s.se,I s.we] 287);obtain⟨r7,r8,r9,Q,a9,aa,ab⟩:=E.rest;have hp:=E.lt;have rf:=zI E.head 10;obtain⟨n0,n1,n2,-⟩:=zc q0;have bl:=zd q0;have H:=ze h;have HX:=ze E;have n:=ze y;have Z:=ze F;clear h r7 r8 r9 a9 aa ab E y q0 F;go_enter func252,ntmps252;go_wp2_with fail;generalize(w.alloc (.cells #[I s.t,I s.se,I s.we] 287))=X at*;have r:=ze (ud HX).grow;have af:B<=X.1.size:=D hB (ud n).size;have za:∀o:Obj,(X.alloc o).cell? (U p 10)=J (.slice V m.gone.length W):=fun o=>(((A X.1.size X).alloc (N _) o).cell (p:=(U p 10)) hp).trans Q;go_region_law (refine Vh rfl (.tmp 22) (.tmp 24) 225 287 3 24 rfl underlying225 Tryz.infoSegment rfl (by decide) B (.slice V m.gone.length W) m.gone.length (m.gone.flatMap sgV) (by simp[Act.eval]) (ZT ((ud r).alloc _)) X.1.size (sgV s) 287 (0,0) (by simp[Act.eval];try omega) (ZS X _) rfl (zaI s) ?h63 ?hby ?hbs ?_;(case h63=>(simp only[maxLen];omega));(case hby=>omega);(case hbs=>(rw[vE];omega));intro g3 d w5 u b G ac;have f:=Z1 b;clear b;have j:zj (fun k=>(Value.slice V m.gone.length W).ownBlock=J k) X w5:=zj.grown ((zj.refl _ _).alloc _) f (fun k C _=>C);have M:w5.1[p]?=X.1[p]?:=(j.block p hp (fun e=>zv (ud HX).head (ud r) (by decide) p e rfl));have d0:=(World.cell?_of_block (a:=(U p 10)) M).trans Q;have d1:=(World.frozen?_of_block (a:=(U p 10)) M).trans rf)
 all_goals
  have l:w5.ownsRow B 287 3 (.slice (J (U g3 0)) (m.gone.length+1) d) (m.gone++[s]).length ((m.gone++[s]).flatMap sgV):=by
   rw[List.length_append,List.flatMap_append,List.length_singleton,List.flatMap_singleton];exact u
  have H5:=ze ((ud HX).setGone (ud Z) j l)
  have ae:X.1.size<=w5.1.size:=j.size
  have ad:(w5.setCell (U p 10) (.slice (J (U g3 0)) (m.gone.length+1) d)).1.size=w5.1.size:=by simp[World.setCell]
  have a3:=ze (ZW (ud H5) (by omega) hc a6 (by first|(show(m.gone++[s]).length<=1000000000000;simp;omega)|(show m.gone.length<=1000000000000;omega)) (by first|(show(m.pub++[s]).length<=1000000000000;simp;omega)|(show m.pub.length<=1000000000000;omega)) (by show m.tg.length<=1000000000000;omega) a7 K)
  have a0:=ze G
  have a1:=ze j
  clear G j u l f
  go_wp2_with fail
  refine(ud a3).mono ?_
  rintro e w6 ⟨rfl,q,P,a5,a4⟩
  have a2:=ze P
  clear P
  go_wp2_with fail
  go_end0
  refine⟨rfl,_,q,ud a2,?_,fun k C=>?_,fun k C=>?_⟩
  ·have k1:zj (fun k=>k=p\/(Value.slice V m.gone.length W).ownBlock=J k) w X:=zj.of_below (ud n)
   have k2:=k1.trans (ud a1) (fun _ _ h=> .inr h)
   have k3:=zk (i:=10) (g:=p) (v:=.slice (J (U g3 0)) (m.gone.length+1) d) k2 (.inl rfl)
   exact k3.trans a5 (fun _ _ h=> .inl h)
  ·simp[Value.ownBlock]at C
   subst C
   rcases ud a0 with h|h
   ·exact .inl h
   ·refine .inr ?_
    rw[h]
    have:=(ud n).size
    first|exact this|(rw[vE];omega)|omega
  ·have:=a4 k C
   have:=(ud n).size
   omega
def RM.done(m:RM)(kind:Int)(s:Sg):RM:=if kind=1 then{m with pub:=m.pub++[s]}.settled else{m with gone:=m.gone++[s]}.settled
def RM.commit(m:RM)(ep num:Int):RM×Int:=match m.tg.findIdx? (Tk.holds ep num)with
 |some i=>(m.done ((m.tg[i]?).getD ⟨0,⟨0,0,0⟩,0,0,0,0,0,0,0⟩).kind ((m.tg[i]?).getD ⟨0,⟨0,0,0⟩,0,0,0,0,0,0,0⟩).s,0)
 |none=>(m,8)
theorem zjc{e:TypeId}(h:w.ownsRow B e size v n xs):∀k,v.ownBlock=J k->k<w.1.size:=fun k c=>by
 obtain⟨a,b⟩:=zG h c;exact zd b
theorem zdD(h:zR B w p m tv nv pv gv kv)(a0:∀k,pv.ownBlock=J k->¬gv.ownBlock=J k)(hB:B<=w.1.size)(hc:m.c.ok)(a3:m.nu.length<=1000000000)(a2:m.gone.length<=1000000000)(a6:m.pub.length<=1000000000)(P:m.tg.length<=1000000000)(a4:∀x∈m.nu,x.ok)(y:0<=m.now/\m.now<=100000)(n:∀x∈m.tg,x.kind=1\/x.kind=2)(ep num:Int):
  Calls prog 214 #[(O p),.agg #[I ep,I num]] w fun e w'=>e=.returned (I (m.commit ep num).2)/\∃V F t,zR B w' p (m.commit ep num).1 tv nv V F t/\(∀k,V.ownBlock=J k->¬F.ownBlock=J k)/\zj (fun k=>k=p\/pv.ownBlock=J k\/gv.ownBlock=J k) w w'/\(∀k,V.ownBlock=J k->pv.ownBlock=J k\/w.1.size<=k)/\(∀k,F.ownBlock=J k->gv.ownBlock=J k\/w.1.size<=k)/\∀k,t.ownBlock=J k->kv.ownBlock=J k\/w.1.size<=k:=by
 have K:B_ w (w.alloc (.cells #[I ep,I num] 49)):=(A _ _).alloc (N _) _;have q0:=zo w (.cells #[I ep,I num] 49);obtain⟨c0,c1,-⟩:=zc q0;have cl:=zd q0;have E:=ze (Va (h.later K) P ep num);have r:=ze K;have u:=ze a0;have a5:=zjc h.prow;have a1:=zjc h.grow;clear q0 K a0;rcases Qh m.tg ep num with⟨Z,G⟩|⟨i,x,Q,Z,G,h3⟩
 ·have C:Hid (m.commit ep num=(m,8)):=by show m.commit ep num=(m,8);unfold RM.commit;rw[Z]
  rw[G]at E;rw[ud C];have H:=ze h;clear h Z G a5 a1;go_in;go_wp2_with fail;refine E.mono ?_;rintro e w1 ⟨rfl,l⟩;have j:=ze (r.trans (l.mono r.size));go_wp2_with fail;go_ret;exact⟨rfl,pv,gv,kv,H.later j,u,zj.of_below j,fun k a=> .inl a,fun k a=> .inl a,fun k a=> .inl a⟩
 ·rw[h3]at E;obtain⟨g,cap,hv,_,f,W,y1,y2,y3,-⟩:=X9 h.krow Q;subst hv;have H:=ze h;have a8:i<m.tg.length:=(List.getElem?_eq_some_iff.1 Q).1;have a7:(i:Int)<m.tg.length:=by omega
  obtain⟨-,-,-,-,v,-,-⟩:=h.rest;have q:=h.lt;clear h h3;rcases n x (List.mem_of_getElem? Q)with n|n
  ·have C:Hid (m.commit ep num=({m with pub:=m.pub++[x.s]}.settled,0)):=(by show m.commit ep num=_;unfold RM.commit RM.done;rw[G];simp only[Q,Option.getD_some];rw[n];rfl);rw[ud C];rw[n]at W;clear Z G Q C;go_in;go_wp2_with fail;refine E.mono ?_;rintro e w1 ⟨rfl,l⟩;have d:=r.trans (l.mono r.size);have X:=ze (zjv (H.later d.drew) u (D hB d.size) hc a3 a2 a6 P a4 y x.s);have z11:=(d.cell (p:=(U p 11)) q).trans v;have z0:=(d.cell (p:=(U g (i*11))) f).trans W;have z1:=(d.cell (p:=(U g (i*11+1))) f).trans y1;have z2:=(d.cell (p:=(U g (i*11+2))) f).trans y2;have z3:=(d.cell (p:=(U g (i*11+3))) f).trans y3;have zp:=Y q d.size;have zg:=Y f d.size;have j:=ze d;clear l d W y1 y2 y3 v E;go_wp2_with fail;refine qP 17 (by kernel_rfl) (by kernel_rfl) ?_;simp only[List.take_succ_cons,List.take_zero,List.drop_succ_cons,List.drop_zero];repeat still_step
   refine wpStill_nil ?_;go_wp2_with fail;refine X.mono ?_;rintro e w2 ⟨rfl,z,t,hR,hK,hz,hk⟩;have HR:=ze hR;have HK:=ze hK;clear hR hK X;go_wp2_with fail;go_ret;have o:=j.size;have M:zj (fun k=>k=p\/pv.ownBlock=J k\/gv.ownBlock=J k) w w2:=(zj.of_below j.drew).trans (g:=fun k=>k=p\/pv.ownBlock=J k) HK (fun k _ e=>Or.elim e .inl (fun e=> .inr (.inl e)));refine⟨rfl,z,gv,t,HR,fun k a b=>?_,M,fun k a=>(hz k a).imp id (fun e=>D o e),fun k a=> .inl a,fun k a=> .inr (D o (hk k a))⟩;rcases hz k a with e|e
   ·exact ud u k e b
   ·have:=a1 k b;exact absurd (D o e) (by omega)
  ·have C:Hid (m.commit ep num=({m with gone:=m.gone++[x.s]}.settled,0)):=(by show m.commit ep num=_;unfold RM.commit RM.done;rw[G];simp only[Q,Option.getD_some];rw[n];rfl);rw[ud C];rw[n]at W;clear Z G Q C;go_in;go_wp2_with fail;refine E.mono ?_;rintro e w1 ⟨rfl,l⟩;have d:=r.trans (l.mono r.size);have X:=ze (zgE (H.later d.drew) u (D hB d.size) hc a3 a2 a6 P a4 y x.s);have z11:=(d.cell (p:=(U p 11)) q).trans v;have z0:=(d.cell (p:=(U g (i*11))) f).trans W;have z1:=(d.cell (p:=(U g (i*11+1))) f).trans y1;have z2:=(d.cell (p:=(U g (i*11+2))) f).trans y2;have z3:=(d.cell (p:=(U g (i*11+3))) f).trans y3;have zp:=Y q d.size;have zg:=Y f d.size;have j:=ze d;clear l d W y1 y2 y3 v E;go_wp2_with fail;refine qP 17 (by kernel_rfl) (by kernel_rfl) ?_;simp only[List.take_succ_cons,List.take_zero,List.drop_succ_cons,List.drop_zero];repeat still_step
   refine wpStill_nil ?_;go_wp2_with fail;refine X.mono ?_;rintro e w2 ⟨rfl,z,t,hR,hK,hz,hk⟩;have HR:=ze hR;have HK:=ze hK;clear hR hK X;go_wp2_with fail;go_ret;have o:=j.size;have M:zj (fun k=>k=p\/pv.ownBlock=J k\/gv.ownBlock=J k) w w2:=(zj.of_below j.drew).trans (g:=fun k=>k=p\/gv.ownBlock=J k) HK (fun k _ e=>Or.elim e .inl (fun e=> .inr (.inr e)));refine⟨rfl,pv,z,t,HR,fun k a b=>?_,M,fun k a=> .inl a,fun k a=>(hz k a).imp id (fun e=>D o e),fun k a=> .inr (D o (hk k a))⟩;rcases hz k b with e|e
   ·exact ud u k a e
   ·have:=a5 k a;exact absurd (D o e) (by omega)
def zL(x d:Nat)(c:Cf)(ct mv td:S)(ep:Int):Obj:=.cells #[(O x),(O d),I c.s,I c.le,I c.la,I c.wi,I c.ke,I c.qu,ct,mv,.slice R 0 0,td,I ep,.bool false,.bool false] 137 (0,0)
theorem zkv{x:Nat}{td:S}(f:Cf)(e:w.1[po]?=J (zL x d f ct mv td eo))(o:Ops)(i:¬o.b=0):
  Calls prog 139 #[(O po),.agg #[I o.kd,I o.on,I o.a,I o.b,I o.c,i_ o.v,I o.te,I o.tn,I o.fs,I o.fg,I o.fe,I o.fw,I o.fk,I o.fq,.slice o.fa o.fn o.fp]] w (Rz w (.agg #[I o.te,I o.tn])):=by
 have h:w.cell? (U po 11)=J td:=by unfold zL at e;rw[xd e];rfl
 have g:=zd e;clear e;go_in;go_wp2_with fail;all_goals
  refine bodyPost_ret (v:=.agg #[I o.te,I o.tn]) (results_cell_row results139 _ _ (w.1.size+1) _ _ _ _ rfl (box2 w _ _).2.1 underlying49 rfl (by kernel_rfl)) rfl ?_
  exact⟨rfl,(box2 w _ _).2.2.1⟩
theorem zhe{x:Nat}{a:Option Addr}(f:Cf)(e:w.1[po]?=J (zL x d f ct mv (.slice a 0 cap) eo))(o:Ops):
  Calls prog 139 #[(O po),.agg #[I o.kd,I o.on,I o.a,I o.b,I o.c,i_ o.v,I o.te,I o.tn,I o.fs,I o.fg,I o.fe,I o.fw,I o.fk,I o.fq,.slice o.fa o.fn o.fp]] w (Rz w (.agg #[I o.te,I o.tn])):=by
 have h:w.cell? (U po 11)=J (.slice a 0 cap):=by unfold zL at e;rw[xd e];rfl
 have g:=zd e;clear e;go_in;go_wp2_with fail;all_goals
  refine bodyPost_ret (v:=.agg #[I o.te,I o.tn]) (results_cell_row results139 _ _ (w.1.size+1) _ _ _ _ rfl (box2 w _ _).2.1 underlying49 rfl (by kernel_rfl)) rfl ?_
  exact⟨rfl,(box2 w _ _).2.2.1⟩
theorem zhf{x:Nat}{te tn:Int}(F:Cf)(t:w.1[po]?=J (zL x d F ct mv (.slice (J (U g 0)) n cap) eo))(o:Ops)(C:o.b=0)(E:g<w.1.size)(hj:(n:Int)-1-(i:Int)=(j:Int))(Q:j<n)(hn:n<=1099511627776)(l:∀w:T,Calls prog 79 #[I o.a,I n] w fun e w'=>e=.returned (I i)/\w'=w)(z:w.cell? (U g (j*2))=J (I te))(B:w.cell? (U g (j*2+1))=J (I tn)):
  Calls prog 139 #[(O po),.agg #[I o.kd,I o.on,I o.a,I o.b,I o.c,i_ o.v,I o.te,I o.tn,I o.fs,I o.fg,I o.fe,I o.fw,I o.fk,I o.fq,.slice o.fa o.fn o.fp]] w (Rz w (.agg #[I te,I tn])):=by
 obtain⟨m,y,f,yz⟩:=box2 w (.cells #[I o.kd,I o.on,I o.a,I o.b,I o.c,i_ o.v,I o.te,I o.tn,I o.fs,I o.fg,I o.fe,I o.fw,I o.fk,I o.fq,.slice o.fa o.fn o.fp] 82) (.cells #[I 0,I 0] 49);have u:=zd t;have h:=(f.block po u).trans t;have Z:((w.alloc (.cells #[I o.kd,I o.on,I o.a,I o.b,I o.c,i_ o.v,I o.te,I o.tn,I o.fs,I o.fg,I o.fe,I o.fw,I o.fk,I o.fq,.slice o.fa o.fn o.fp] 82)).alloc (.cells #[I 0,I 0] 49)).cell? (U po 11)=J (.slice (J (U g 0)) n cap):=by unfold zL at h;rw[xd h];rfl
 obtain⟨-,-,c2,-⟩:=zc m;have c3:((w.alloc (.cells #[I o.kd,I o.on,I o.a,I o.b,I o.c,i_ o.v,I o.te,I o.tn,I o.fs,I o.fg,I o.fe,I o.fw,I o.fk,I o.fq,.slice o.fa o.fn o.fp] 82)).alloc (.cells #[I 0,I 0] 49)).cell? (U w.1.size 3)=J (I 0):=by rw[xd m,C];rfl
 have g0:=(f.cell (p:=(U g (j*2))) E).trans z;have g1:=(f.cell (p:=(U g (j*2+1))) E).trans B;have r:=fun W=>ze (l W);have V:¬(n:Int)=0:=by omega
 have P:(j:Int)<(n:Int):=by omega
 have M:0<=(n:Int)-1-(i:Int):=by omega
 have s:=ze y;have q:=ze f;have q1:po<w.1.size+2:=by omega
 have q2:g<w.1.size+2:=by omega
 have q3:w.1.size<w.1.size+2:=by omega
 clear t h l z B m y f yz C;go_in;generalize o.b=ob at*;go_wp2_with fail;generalize((w.alloc (.cells #[I o.kd,I o.on,I o.a,I ob,I o.c,i_ o.v,I o.te,I o.tn,I o.fs,I o.fg,I o.fe,I o.fw,I o.fk,I o.fq,.slice o.fa o.fn o.fp] 82)).alloc (.cells #[I 0,I 0] 49))=X at*;obtain⟨m,y,-⟩:=zc s;have yf:=fun k=>zI s k;refine qP 21 (by kernel_rfl) (by kernel_rfl) ?_;simp only[List.take_succ_cons,List.take_zero,List.drop_succ_cons,List.drop_zero];iterate 17 still_step
 still_call (r _);still_step;have G:IntKind.i64.wrap ((n:Int)-1)=(n:Int)-1:=by rw[IntKind.wrap_i64];omega
 have H:IntKind.i64.wrap ((n:Int)-1-(i:Int))=(j:Int):=by rw[IntKind.wrap_i64];omega
 rw[G,H];repeat still_step
 refine wpStill_nil ?_;go_wp2_with fail;have K:(((X.setCell (U (w.1.size+1) 0) (I te)).setCell (U (w.1.size+1) 1) (I tn)).drew).1[w.1.size+1]?=J (.cells #[I te,I tn] 49 (0,0)):=xq (i:=1) (xq (i:=0) s _) _;refine bodyPost_ret (v:=.agg #[I te,I tn]) (results_cell_row results139 _ _ (w.1.size+1) _ _ _ _ rfl K underlying49 rfl (by kernel_rfl)) rfl ?_;exact⟨rfl,((q.setCell (p:=(U (w.1.size+1) 0)) (show w.1.size<=w.1.size+1 by omega) _).setCell (p:=(U (w.1.size+1) 1)) (show w.1.size<=w.1.size+1 by omega) _).drew⟩
def zcG(k:Int):Tk:=⟨k,⟨0,0,0⟩,0,0,0,0,0,0,0⟩
def MkJ(X:Nat)(w:T)(u:S)(n:Nat)(k:Int):Prop:=w.ownsRow X 51 11 u n ((List.replicate n (zcG k)).flatMap tkV)
structure ZZ(B:Nat)(w:T)(lv:S)(kn:List S)(q:Nat):Prop where
 row:w.ownsRow B 55 1 lv kn.length kn
 four:kn.length=4*q
 marks:∀j v,kn[j]?=J v->∃n,n<=1000000/\MkJ B w v n (((j/4:Nat):Int)+10)
theorem zpM{m:Tk}(d:l[k]?=J x):((((((((((((l.flatMap tkV).set (k*11) (I m.kind)).set (k*11+1) (I m.s.t)).set (k*11+2) (I m.s.se)).set (k*11+3) (I m.s.we)).set (k*11+4) (I m.si)).set (k*11+5) (I m.tc)).set (k*11+6) (I m.rest)).set (k*11+7) (I m.ep)).set (k*11+8) (I m.num)).set (k*11+9) (I m.slot)).set (k*11+10) (I m.till))=(l.set k m).flatMap tkV:=by
 have u:k<l.length:=(List.getElem?_eq_some_iff.1 d).1;have b:∀a:Tk,(l.set k a)[k]?=J a:=fun a=>by simp[u]
 have e:(l.flatMap tkV).set (k*11+0) (I m.kind)=(l.set k (⟨m.kind,⟨x.s.t,x.s.se,x.s.we⟩,x.si,x.tc,x.rest,x.ep,x.num,x.slot,x.till⟩:Tk)).flatMap tkV:=yn (f:=tkV) (k:=11) (a:=x) (a':=(⟨m.kind,⟨x.s.t,x.s.se,x.s.we⟩,x.si,x.tc,x.rest,x.ep,x.num,x.slot,x.till⟩:Tk)) yd (by omega) rfl l k d;have g:((l.set k (⟨m.kind,⟨x.s.t,x.s.se,x.s.we⟩,x.si,x.tc,x.rest,x.ep,x.num,x.slot,x.till⟩:Tk)).flatMap tkV).set (k*11+1) (I m.s.t)=((l.set k (⟨m.kind,⟨x.s.t,x.s.se,x.s.we⟩,x.si,x.tc,x.rest,x.ep,x.num,x.slot,x.till⟩:Tk)).set k (⟨m.kind,⟨m.s.t,x.s.se,x.s.we⟩,x.si,x.tc,x.rest,x.ep,x.num,x.slot,x.till⟩:Tk)).flatMap tkV:=yn (f:=tkV) (k:=11) (a:=(⟨m.kind,⟨x.s.t,x.s.se,x.s.we⟩,x.si,x.tc,x.rest,x.ep,x.num,x.slot,x.till⟩:Tk)) (a':=(⟨m.kind,⟨m.s.t,x.s.se,x.s.we⟩,x.si,x.tc,x.rest,x.ep,x.num,x.slot,x.till⟩:Tk)) yd (by omega) rfl (l.set k (⟨m.kind,⟨x.s.t,x.s.se,x.s.we⟩,x.si,x.tc,x.rest,x.ep,x.num,x.slot,x.till⟩:Tk)) k (b _);have h:((l.set k (⟨m.kind,⟨m.s.t,x.s.se,x.s.we⟩,x.si,x.tc,x.rest,x.ep,x.num,x.slot,x.till⟩:Tk)).flatMap tkV).set (k*11+2) (I m.s.se)=((l.set k (⟨m.kind,⟨m.s.t,x.s.se,x.s.we⟩,x.si,x.tc,x.rest,x.ep,x.num,x.slot,x.till⟩:Tk)).set k (⟨m.kind,⟨m.s.t,m.s.se,x.s.we⟩,x.si,x.tc,x.rest,x.ep,x.num,x.slot,x.till⟩:Tk)).flatMap tkV:=yn (f:=tkV) (k:=11) (a:=(⟨m.kind,⟨m.s.t,x.s.se,x.s.we⟩,x.si,x.tc,x.rest,x.ep,x.num,x.slot,x.till⟩:Tk)) (a':=(⟨m.kind,⟨m.s.t,m.s.se,x.s.we⟩,x.si,x.tc,x.rest,x.ep,x.num,x.slot,x.till⟩:Tk)) yd (by omega) rfl (l.set k (⟨m.kind,⟨m.s.t,x.s.se,x.s.we⟩,x.si,x.tc,x.rest,x.ep,x.num,x.slot,x.till⟩:Tk)) k (b _);have i:((l.set k (⟨m.kind,⟨m.s.t,m.s.se,x.s.we⟩,x.si,x.tc,x.rest,x.ep,x.num,x.slot,x.till⟩:Tk)).flatMap tkV).set (k*11+3) (I m.s.we)=((l.set k (⟨m.kind,⟨m.s.t,m.s.se,x.s.we⟩,x.si,x.tc,x.rest,x.ep,x.num,x.slot,x.till⟩:Tk)).set k (⟨m.kind,⟨m.s.t,m.s.se,m.s.we⟩,x.si,x.tc,x.rest,x.ep,x.num,x.slot,x.till⟩:Tk)).flatMap tkV:=yn (f:=tkV) (k:=11) (a:=(⟨m.kind,⟨m.s.t,m.s.se,x.s.we⟩,x.si,x.tc,x.rest,x.ep,x.num,x.slot,x.till⟩:Tk)) (a':=(⟨m.kind,⟨m.s.t,m.s.se,m.s.we⟩,x.si,x.tc,x.rest,x.ep,x.num,x.slot,x.till⟩:Tk)) yd (by omega) rfl (l.set k (⟨m.kind,⟨m.s.t,m.s.se,x.s.we⟩,x.si,x.tc,x.rest,x.ep,x.num,x.slot,x.till⟩:Tk)) k (b _);have j:((l.set k (⟨m.kind,⟨m.s.t,m.s.se,m.s.we⟩,x.si,x.tc,x.rest,x.ep,x.num,x.slot,x.till⟩:Tk)).flatMap tkV).set (k*11+4) (I m.si)=((l.set k (⟨m.kind,⟨m.s.t,m.s.se,m.s.we⟩,x.si,x.tc,x.rest,x.ep,x.num,x.slot,x.till⟩:Tk)).set k (⟨m.kind,⟨m.s.t,m.s.se,m.s.we⟩,m.si,x.tc,x.rest,x.ep,x.num,x.slot,x.till⟩:Tk)).flatMap tkV:=yn (f:=tkV) (k:=11) (a:=(⟨m.kind,⟨m.s.t,m.s.se,m.s.we⟩,x.si,x.tc,x.rest,x.ep,x.num,x.slot,x.till⟩:Tk)) (a':=(⟨m.kind,⟨m.s.t,m.s.se,m.s.we⟩,m.si,x.tc,x.rest,x.ep,x.num,x.slot,x.till⟩:Tk)) yd (by omega) rfl (l.set k (⟨m.kind,⟨m.s.t,m.s.se,m.s.we⟩,x.si,x.tc,x.rest,x.ep,x.num,x.slot,x.till⟩:Tk)) k (b _);have n:((l.set k (⟨m.kind,⟨m.s.t,m.s.se,m.s.we⟩,m.si,x.tc,x.rest,x.ep,x.num,x.slot,x.till⟩:Tk)).flatMap tkV).set (k*11+5) (I m.tc)=((l.set k (⟨m.kind,⟨m.s.t,m.s.se,m.s.we⟩,m.si,x.tc,x.rest,x.ep,x.num,x.slot,x.till⟩:Tk)).set k (⟨m.kind,⟨m.s.t,m.s.se,m.s.we⟩,m.si,m.tc,x.rest,x.ep,x.num,x.slot,x.till⟩:Tk)).flatMap tkV:=yn (f:=tkV) (k:=11) (a:=(⟨m.kind,⟨m.s.t,m.s.se,m.s.we⟩,m.si,x.tc,x.rest,x.ep,x.num,x.slot,x.till⟩:Tk)) (a':=(⟨m.kind,⟨m.s.t,m.s.se,m.s.we⟩,m.si,m.tc,x.rest,x.ep,x.num,x.slot,x.till⟩:Tk)) yd (by omega) rfl (l.set k (⟨m.kind,⟨m.s.t,m.s.se,m.s.we⟩,m.si,x.tc,x.rest,x.ep,x.num,x.slot,x.till⟩:Tk)) k (b _);have o:((l.set k (⟨m.kind,⟨m.s.t,m.s.se,m.s.we⟩,m.si,m.tc,x.rest,x.ep,x.num,x.slot,x.till⟩:Tk)).flatMap tkV).set (k*11+6) (I m.rest)=((l.set k (⟨m.kind,⟨m.s.t,m.s.se,m.s.we⟩,m.si,m.tc,x.rest,x.ep,x.num,x.slot,x.till⟩:Tk)).set k (⟨m.kind,⟨m.s.t,m.s.se,m.s.we⟩,m.si,m.tc,m.rest,x.ep,x.num,x.slot,x.till⟩:Tk)).flatMap tkV:=yn (f:=tkV) (k:=11) (a:=(⟨m.kind,⟨m.s.t,m.s.se,m.s.we⟩,m.si,m.tc,x.rest,x.ep,x.num,x.slot,x.till⟩:Tk)) (a':=(⟨m.kind,⟨m.s.t,m.s.se,m.s.we⟩,m.si,m.tc,m.rest,x.ep,x.num,x.slot,x.till⟩:Tk)) yd (by omega) rfl (l.set k (⟨m.kind,⟨m.s.t,m.s.se,m.s.we⟩,m.si,m.tc,x.rest,x.ep,x.num,x.slot,x.till⟩:Tk)) k (b _);have p:((l.set k (⟨m.kind,⟨m.s.t,m.s.se,m.s.we⟩,m.si,m.tc,m.rest,x.ep,x.num,x.slot,x.till⟩:Tk)).flatMap tkV).set (k*11+7) (I m.ep)=((l.set k (⟨m.kind,⟨m.s.t,m.s.se,m.s.we⟩,m.si,m.tc,m.rest,x.ep,x.num,x.slot,x.till⟩:Tk)).set k (⟨m.kind,⟨m.s.t,m.s.se,m.s.we⟩,m.si,m.tc,m.rest,m.ep,x.num,x.slot,x.till⟩:Tk)).flatMap tkV:=yn (f:=tkV) (k:=11) (a:=(⟨m.kind,⟨m.s.t,m.s.se,m.s.we⟩,m.si,m.tc,m.rest,x.ep,x.num,x.slot,x.till⟩:Tk)) (a':=(⟨m.kind,⟨m.s.t,m.s.se,m.s.we⟩,m.si,m.tc,m.rest,m.ep,x.num,x.slot,x.till⟩:Tk)) yd (by omega) rfl (l.set k (⟨m.kind,⟨m.s.t,m.s.se,m.s.we⟩,m.si,m.tc,m.rest,x.ep,x.num,x.slot,x.till⟩:Tk)) k (b _);have q:((l.set k (⟨m.kind,⟨m.s.t,m.s.se,m.s.we⟩,m.si,m.tc,m.rest,m.ep,x.num,x.slot,x.till⟩:Tk)).flatMap tkV).set (k*11+8) (I m.num)=((l.set k (⟨m.kind,⟨m.s.t,m.s.se,m.s.we⟩,m.si,m.tc,m.rest,m.ep,x.num,x.slot,x.till⟩:Tk)).set k (⟨m.kind,⟨m.s.t,m.s.se,m.s.we⟩,m.si,m.tc,m.rest,m.ep,m.num,x.slot,x.till⟩:Tk)).flatMap tkV:=yn (f:=tkV) (k:=11) (a:=(⟨m.kind,⟨m.s.t,m.s.se,m.s.we⟩,m.si,m.tc,m.rest,m.ep,x.num,x.slot,x.till⟩:Tk)) (a':=(⟨m.kind,⟨m.s.t,m.s.se,m.s.we⟩,m.si,m.tc,m.rest,m.ep,m.num,x.slot,x.till⟩:Tk)) yd (by omega) rfl (l.set k (⟨m.kind,⟨m.s.t,m.s.se,m.s.we⟩,m.si,m.tc,m.rest,m.ep,x.num,x.slot,x.till⟩:Tk)) k (b _);have r:((l.set k (⟨m.kind,⟨m.s.t,m.s.se,m.s.we⟩,m.si,m.tc,m.rest,m.ep,m.num,x.slot,x.till⟩:Tk)).flatMap tkV).set (k*11+9) (I m.slot)=((l.set k (⟨m.kind,⟨m.s.t,m.s.se,m.s.we⟩,m.si,m.tc,m.rest,m.ep,m.num,x.slot,x.till⟩:Tk)).set k (⟨m.kind,⟨m.s.t,m.s.se,m.s.we⟩,m.si,m.tc,m.rest,m.ep,m.num,m.slot,x.till⟩:Tk)).flatMap tkV:=yn (f:=tkV) (k:=11) (a:=(⟨m.kind,⟨m.s.t,m.s.se,m.s.we⟩,m.si,m.tc,m.rest,m.ep,m.num,x.slot,x.till⟩:Tk)) (a':=(⟨m.kind,⟨m.s.t,m.s.se,m.s.we⟩,m.si,m.tc,m.rest,m.ep,m.num,m.slot,x.till⟩:Tk)) yd (by omega) rfl (l.set k (⟨m.kind,⟨m.s.t,m.s.se,m.s.we⟩,m.si,m.tc,m.rest,m.ep,m.num,x.slot,x.till⟩:Tk)) k (b _);have c:((l.set k (⟨m.kind,⟨m.s.t,m.s.se,m.s.we⟩,m.si,m.tc,m.rest,m.ep,m.num,m.slot,x.till⟩:Tk)).flatMap tkV).set (k*11+10) (I m.till)=((l.set k (⟨m.kind,⟨m.s.t,m.s.se,m.s.we⟩,m.si,m.tc,m.rest,m.ep,m.num,m.slot,x.till⟩:Tk)).set k (⟨m.kind,⟨m.s.t,m.s.se,m.s.we⟩,m.si,m.tc,m.rest,m.ep,m.num,m.slot,m.till⟩:Tk)).flatMap tkV:=yn (f:=tkV) (k:=11) (a:=(⟨m.kind,⟨m.s.t,m.s.se,m.s.we⟩,m.si,m.tc,m.rest,m.ep,m.num,m.slot,x.till⟩:Tk)) (a':=(⟨m.kind,⟨m.s.t,m.s.se,m.s.we⟩,m.si,m.tc,m.rest,m.ep,m.num,m.slot,m.till⟩:Tk)) yd (by omega) rfl (l.set k (⟨m.kind,⟨m.s.t,m.s.se,m.s.we⟩,m.si,m.tc,m.rest,m.ep,m.num,m.slot,x.till⟩:Tk)) k (b _);rw[show k*11=k*11+0 from rfl,e];rw[g,List.set_set];rw[h,List.set_set];rw[i,List.set_set];rw[j,List.set_set];rw[n,List.set_set];rw[o,List.set_set];rw[p,List.set_set];rw[q,List.set_set];rw[r,List.set_set];rw[c,List.set_set]
theorem zpJ(h:w.ownsRow B 51 11 (.slice (J (U g 0)) n cap) n (l.flatMap tkV))(hn:l.length=n){m:Tk}(a:l[k]?=J x):(((((((((((w.setCell (U g (k*11)) (I m.kind)).setCell (U g (k*11+1)) (I m.s.t)).setCell (U g (k*11+2)) (I m.s.se)).setCell (U g (k*11+3)) (I m.s.we)).setCell (U g (k*11+4)) (I m.si)).setCell (U g (k*11+5)) (I m.tc)).setCell (U g (k*11+6)) (I m.rest)).setCell (U g (k*11+7)) (I m.ep)).setCell (U g (k*11+8)) (I m.num)).setCell (U g (k*11+9)) (I m.slot)).setCell (U g (k*11+10)) (I m.till)).ownsRow B 51 11 (.slice (J (U g 0)) n cap) n ((l.set k m).flatMap tkV):=by
 have b:k<l.length:=(List.getElem?_eq_some_iff.1 a).1;rw[<-zpM (m:=m) a];exact vh (vh (vh (vh (vh (vh (vh (vh (vh (vh (vh (h) (by omega) _) (by omega) _) (by omega) _) (by omega) _) (by omega) _) (by omega) _) (by omega) _) (by omega) _) (by omega) _) (by omega) _) (by omega) _
theorem zqm(off:Nat)(m:Tk):zj (fun k=>k=g) w (((((((((((w.setCell (U g off) (I m.kind)).setCell (U g (off+1)) (I m.s.t)).setCell (U g (off+2)) (I m.s.se)).setCell (U g (off+3)) (I m.s.we)).setCell (U g (off+4)) (I m.si)).setCell (U g (off+5)) (I m.tc)).setCell (U g (off+6)) (I m.rest)).setCell (U g (off+7)) (I m.ep)).setCell (U g (off+8)) (I m.num)).setCell (U g (off+9)) (I m.slot)).setCell (U g (off+10)) (I m.till)):=zk (i:=off+10) (zk (i:=off+9) (zk (i:=off+8) (zk (i:=off+7) (zk (i:=off+6) (zk (i:=off+5) (zk (i:=off+4) (zk (i:=off+3) (zk (i:=off+2) (zk (i:=off+1) (zk (i:=off) (zj.refl _ _) rfl) rfl) rfl) rfl) rfl) rfl) rfl) rfl) rfl) rfl) rfl
theorem zbk(n j:Nat)(m:Tk):(List.replicate n m).flatMap tkV++(List.replicate j m).flatMap tkV=(List.replicate (n+j) m).flatMap tkV:=by
 rw[<-List.flatMap_append,List.replicate_append_replicate]
theorem Vv(m:Tk)(h:k<=j):((List.replicate j m).flatMap tkV).take (k*11)=(List.replicate k m).flatMap tkV:=by
 have e:(List.replicate j m).flatMap tkV=(List.replicate k m).flatMap tkV++(List.replicate (j-k) m).flatMap tkV:=by rw[zbk];congr 2;omega
 rw[e,List.take_left' (by rw[zeu yd];simp)]
theorem zbl(m:Tk)(a:i<n)(b:j<11):((List.replicate n m).flatMap tkV)[i*11+j]?=(tkV m)[j]?:=qs yd _ i m j (by simp[a]) b
theorem zbM{base:Nat}{e:TypeId}(h:w.ownsRow base e size (.slice (J (U g 0)) n cap) n xs)(p:k<=n):w.ownsRow base e size (.slice (J (U g 0)) k cap) k (xs.take (k*size)):=by
 obtain⟨s,c⟩:=h;have t:k*size<=n*size:=Nat.mul_le_mul_right _ p;rcases c with⟨c,_⟩|⟨r,l,b,hv,m,o,q,d,f,i⟩
 ·cases c
 ·injection hv with a _ j;injection a with a;injection a with a;subst a;subst j;refine⟨by rw[List.length_take];omega,.inr ⟨g,cap,b,rfl,m,o,by omega,d,f,?_⟩⟩;rw[<-i,List.take_take];congr 1;omega
theorem MkJ.alloc{m:Int}(h:MkJ X w u k m)(o:Obj):MkJ X (w.alloc o) u k m:=World.ownsRow.alloc h o
theorem MkJ.app{l:S}{m:Int}(i:MkJ X w u k m)(d:MkJ X w' (.slice (J (U g 0)) j cap) j m)(c:k<=j)(h:w.grownBy w' l.ownBlock)(a:l=.slice (J (U g 0)) n cap\/(g=w.1.size/\w.grownBy w' R))(q:∀b s f nl cl,u=.slice (J (U b 0)) s f->l=.slice (J (U b 0)) nl cl->f=cl):MkJ X w' u k m:=by
 rcases i.2 with⟨rfl,rfl⟩|⟨b,f,o,rfl,r⟩
 ·exact World.ownsRow_nil _ _ _ _
 ·rcases a with a|⟨_,a⟩
  ·by_cases e:b=g
   ·have p:=q b _ f n cap rfl (e▸a);subst e;subst p;have:=zbM d c;rwa[Vv _ c]at this
   ·exact World.ownsRow.kept i h (.inr (by rw[a];simp[Value.ownBlock,e]))
  ·exact World.ownsRow.kept i a (.inr (by simp[Value.ownBlock]))
theorem MkJ.of{m:Int}(h:w.ownsRow X 51 11 v (n+j) ((List.replicate n (zcG m)).flatMap tkV++(List.replicate j (zcG m)).flatMap tkV)):MkJ X w v (n+j) m:=by
 rw[zbk]at h;exact h
theorem XI:∀b d a nl cl,u=.slice (J (U b 0)) d a->u=.slice (J (U b 0)) nl cl->a=cl:=by
 intro b d a nl cl e c;rw[e]at c;injection c
theorem Vf{H:Nat}{w0 w1 w2:T}{l:S}{c b:Nat}{m:Int}(hv:MkJ X w0 l n m)(d:l=.slice (J (U c 0)) n b\/(c=H/\w1.grownBy w2 R))(o:w0.1.size<=H):
  ∀f i e nl cl,(Value.slice (J (U c 0)) j b)=.slice (J (U f 0)) i e->l=.slice (J (U f 0)) nl cl->e=cl:=by
 intro f i e nl cl k h;injection k with a _ g;injection a with a;injection a with a;subst a;subst g;rcases d with d|⟨d,_⟩
 ·rw[d]at h;injection h
 ·have:=(World.ownsRow.lt hv c (by rw[h];rfl)).2;omega
theorem QF{l:S}{m:Int}{o:Obj}(hv:MkJ X w l n m)(a:X<=w.1.size)(b:(w.alloc o).grownBy w' l.ownBlock):L X w w':=
 ((A _ _).alloc a _).grown b (by rw[zE];omega) (fun k c=>(World.ownsRow.lt hv k c).1)
section
variable {P:Program}
theorem VF(w:T)(t F:TypeId)(base:Nat)(e:TypeId)(i:TypeInfo)(z:S)(size d:Nat)(O:P.underlying t=J (.slice e))(H:P.info? e=J i)(hz:i.zero=J z)(p:i.size=size)(hby:i.bytes=d)(V:z.cells.size=size)(M:0<size)(v:S)(n:Nat)(xs:List S)(f:w.ownsRow base e size v n xs)(ad:Addr)(m c:Nat)(a:List S)(C:a.length=m*size)(hnews:∀j u,a[j]?=J u->w.cell? (ad.add j)=J u)(W:∀u∈a,u.oneCell'=true)(hm:0<m)(h63:n+m<=maxLen)(hbytes:(n+m)*d<=140737488355328)(q:base<=w.1.size):
  ∃g cap w',(Builtin.append_ #[t,t] F #[v,.slice (J ad) m c]).run P w=.ok (.slice (J (U g 0)) (n+m) cap) w'/\
   w'.ownsRow base e size (.slice (J (U g 0)) (n+m) cap) (n+m) (xs++a)/\w.grownBy w' v.ownBlock/\(v=.slice (J (U g 0)) n cap\/(g=w.1.size/\w.grownBy w' R))/\g<w'.1.size:=by
 obtain⟨v',w',K,X,Z,_,s⟩:=run_append_own_at (P:=P) w base t F e i z size d O H hz p hby V M v n xs f ad m c a C hnews W h63 hbytes q;obtain⟨g,cap,rfl,_,I⟩:=X.form (by omega);refine⟨g,cap,w',K,X,Z,?_,I⟩;rcases f.2 with⟨rfl,_⟩|⟨B,h,x,rfl,hb,hg,a1,a0,G,a2⟩
 ·right;rcases s with s|s
  ·cases s
  ·simp[Value.ownBlock]at s;exact⟨s,Z⟩
 ·subst p;subst hby;by_cases o:n+m<=h
  ·have y:n*i.size+a.length<=x.size:=(by rw[C,G,<-Nat.add_mul];exact Nat.mul_le_mul_right _ o);have l:=run_append_room (P:=P) w t F e i O H B n h x hg ad m c a C hnews W o y;rw[K]at l;injection l with hv _;injection hv with b _ Q;injection b with b;injection b with b;left;rw[b,Q]
  ·have E:n+m<=9223372036854775807:=(by simp only[maxLen]at h63;omega);have r:∀j u,xs[j]?=J u->w.cell? (((U B 0):Addr).add j)=J u:=f.cells (g:=B) rfl;have l:=run_append_grow (P:=P) w t F e i z O H hz (U B 0) n h xs f.1 r ad m c a C hnews (by omega) (by omega) (growslice_fits (by omega) hbytes);rw[K]at l;injection l with hv hw;injection hv with b _ _;injection b with b;injection b with b;right;refine⟨b,?_⟩;subst hw;exact⟨rfl,rfl,rfl,by simp,fun k hk _=>Below.heap_alloc w.drew _ k hk⟩
theorem yo(r:o.guard=R)(s x:Operand)(t:TypeId)(W:o.op=.call {callee:=.builtin .append,args:=#[s,x],argTypes:=#[t,t]})(base:Nat)(e:TypeId)(z:S)(size c:Nat)(ht:P.underlying t=J (.slice e))(d:(P.info? e).map (fun i=>(i.zero,i.size,i.bytes))=J (J z,size,c))(C:z.cells.size=size)(B:0<size)(v:S)(n:Nat)(xs:List S)(Z:a.eval s=v)(l:w.ownsRow base e size v n xs)(p m:Nat)(b:List S)(hx:a.eval x=.slice (J (U p 0)) m m)(q:w.1[p]?=J (.cells b.toArray e (0,0)))(O:b.length=m*size)(E:∀u∈b,u.oneCell'=true)(V:0<m)(hn:n+m<=maxLen)(hby:(n+m)*c<=140737488355328)(f:base<=w.1.size)(h:∀g cap w',w'.ownsRow base e size (.slice (J (U g 0)) (n+m) cap) (n+m) (xs++b)->w.grownBy w' v.ownBlock->(v=.slice (J (U g 0)) n cap\/(g=w.1.size/\w.grownBy w' R))->g<w'.1.size->wpList P ops Q rest (a.put o.dst (.slice (J (U g 0)) (n+m) cap)) w'):wpList P ops Q (o::rest) a w:=by
 cases y:P.info? e with
 |none=>simp[y]at d
 |some i=>
  simp only[y,Option.map_some,Option.some.injEq,Prod.mk.injEq]at d;obtain⟨hz,j,k⟩:=d;refine wpList_plain r fun K M=>?_;obtain⟨g,cap,w',X,F,G,H,I⟩:=VF (P:=P) w t o.type base e i z size c ht y hz j k C B v n xs l (U p 0) m m b O (World.news_of_block (cs:=b.toArray) q) E V hn hby f;unfold Oper.wp;simp[execOp,W,resolve,invoke,builtin,Z,hx,X,Result.andThen];exact M _ _ (h g cap w' F G H I)
