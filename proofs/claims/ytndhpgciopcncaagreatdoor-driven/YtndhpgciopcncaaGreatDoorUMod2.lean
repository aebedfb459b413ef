import Derived.Test.YtndhpgciopcncaaGreatDoorUBrd2
import Derived.Test.YtndhpgciopcncaaGreatDoorUJn2
set_option linter.unusedVariables false
namespace Go.Proofs.YtndhpgciopcncaaGreatDoor
open Go.RowKit Go.Maps Go.Shelf
def kf(v:SV):Int:=if v.st=1 then v.cl.cnt else 0
def Kz(L:LV):Int:=qr (L.map (fun p=>kf p.2))
section
variable {c:Cf} {L:LV}
theorem vG(x:Nm):∀(k:Nat) (L:LV) {p:Sg×SV},p∈yw c x k L->p∈L\/∃j:Nat,j<k/\p=(zB c (j:Int) x,⟨2,xY⟩)/\zB c (j:Int) x∉zr L
 |0,L,p,h=> .inl h
 |k+1,L,p,h=>by
  have d:p∈xL c x k (yw c x k L):=h
  unfold xL at d
  split at d
  ·rcases vG x k L d with a|⟨j,a,b⟩
   ·exact .inl a
   ·exact .inr ⟨j,by omega,b⟩
  ·rename_i hn
   rcases qh d with rfl|⟨d,_⟩
   ·refine .inr ⟨k,by omega,rfl,fun g=>hn ?_⟩
    clear h d hn
    have e:∀(k:Nat) (s:Sg),s∈zr L->s∈zr (yw c x k L):=fun k=>by
     induction k with
     |zero=>exact fun s h=>h
     |succ k f=>intro s h;show s∈zr (xL c x k _);unfold xL;split;exact f s h;exact xG.2 (.inl (f s h))
    exact e k _ g
   ·rcases vG x k L d with a|⟨j,a,b⟩
    ·exact .inl a
    ·exact .inr ⟨j,by omega,b⟩
theorem kO(x:Nm):∀(k:Nat) (L:LV) {p:Sg×SV},p∈L->p∈yw c x k L
 |0,L,p,h=>h
 |k+1,L,p,h=>by
  have a:=kO x k L h
  show p∈xL c x k (yw c x k L)
  unfold xL
  split
  ·exact a
  ·rename_i hn
   unfold qT;rw[if_neg hn];exact List.mem_append_left _ a
theorem jF(x:Nm):∀(k:Nat) (L:LV),(zr L).Nodup->(zr (yw c x k L)).Nodup
 |0,L,h=>h
 |k+1,L,h=>by
  show(zr (xL c x k (yw c x k L))).Nodup
  unfold xL
  split
  ·exact jF x k L h
  ·exact yU (jF x k L h)
theorem jY(x:Nm):∀(k:Nat) (L:LV) (j:Nat),j<k->zB c (j:Int) x∈zr (yw c x k L)
 |k+1,L,j,h=>by
  show _∈zr (xL c x k (yw c x k L))
  unfold xL
  split
  ·rename_i hm
   by_cases e:j=k
   ·subst e;exact hm
   ·exact jY x k L j (by omega)
  ·by_cases e:j=k
   ·subst e;exact xG.2 (.inr rfl)
   ·exact xG.2 (.inl (jY x k L j (by omega)))
theorem Ze{now:Int}(d:c.ok){x:Nm}{t:Int}(a: -1<=t)(b:t<c.n)(f:now-c.la<=x.tm):¬c.clo now (zB c t x):=by
 obtain⟨e,_⟩:=d.wt a b
 have:x.tm<(x.tm/c.wt t+1)*c.wt t:=Int.lt_ediv_add_one_mul_self _ (by omega)
 unfold Cf.clo zB
 dsimp only
 omega
theorem zdz(d:c.ok){x:Nm}(h:0<=x.sr/\x.sr<4)(e:0<=x.tm/\x.tm<=100000){t:Int}(a: -1<=t)(b:t<c.n):inR c (zB c t x):=by
 obtain⟨i,_⟩:=d.wt a b
 have hn:=d.n4
 have f:0<=x.tm/c.wt t:=Int.ediv_nonneg e.1 (by omega)
 have g:x.tm/c.wt t<=x.tm:=Int.ediv_le_self _ e.1
 refine⟨⟨?_,?_,?_⟩,a,b,f,?_⟩
 ·show xh t;unfold xh;omega
 ·show xh x.sr;unfold xh;omega
 ·show xh (x.tm/c.wt t);unfold xh;omega
 ·show x.tm/c.wt t<=100000;omega
theorem zdy(f:c.ok)(g:c.fits){x:Nm}(j:0<=x.tm):(⟨(c.b:Int),x.sr,(xk c x).wa*c.wi/c.W c.b⟩:Sg)=zB c (c.b:Int) x:=by
 obtain⟨q,i,e⟩:=g.div0
 have h:=f.wi1
 have a:c.wt (c.b:Int)=c.W c.b:=by unfold Cf.wt zT;rw[if_neg (by omega)];simp
 have d:c.wt (-1)=c.wi:=by unfold Cf.wt zT;rw[if_pos rfl]
 unfold xk zB
 rw[a,d]
 dsimp only
 have:x.tm/c.wi*c.wi/c.W c.b=x.tm/c.W c.b:=by
  rw[e,Int.mul_comm c.wi q,Int.mul_ediv_mul_of_pos_left _ _ (by omega),Int.ediv_ediv_of_nonneg (by omega),Int.mul_comm c.wi q]
 rw[this]
end
section
variable {c:Cf} {ep:Int} {m:MS}
theorem MOk.rawAt(h:ym c m.now m.L m.Gl)(f:c.ok){x:Nm}{v:SV}(hv:yy m.L (xk c x)=some v):v.st=1/\1<=v.cl.cnt/\v.cl.cnt<=400/\ -(v.cl.cnt*2147483648)<=v.cl.sum/\v.cl.sum<=v.cl.cnt*2147483648:=by
 have e:=kA hv
 obtain⟨a,b,d⟩:=h.raw _ e rfl
 exact⟨a,b,h.cnt f _ e rfl,d⟩
theorem zdR(h:ym c m.now m.L m.Gl)(i:c.ok)(x:Nm)(f:SV->Int)(a:∀d:Cl,f ⟨1,d⟩=d.cnt):qr ((qw c m.L x).map (fun p=>f p.2))=qr (m.L.map (fun p=>f p.2))+1:=by
 unfold qw
 cases b:yy m.L (xk c x)with
 |none=>rw[jR f (yp.1 b),a];simp[qp]
 |some v=>
  obtain⟨g,_⟩:=MOk.rawAt h i b
  rw[QU h.nl (kA b) f,a]
  have:f v=v.cl.cnt:=by
   have e:v=⟨1,v.cl⟩:=by cases v;simp at g;subst g;rfl
   rw[e,a]
  rw[this];simp[qp];omega
theorem zdS(x:Nm)(f:SV->Int)(a:f ⟨2,xY⟩=0):∀(k:Nat) (L:LV),qr ((yw c x k L).map (fun p=>f p.2))=qr (L.map (fun p=>f p.2))
 |0,L=>rfl
 |k+1,L=>by
  show qr ((xL c x k (yw c x k L)).map (fun p=>f p.2))=_
  unfold xL
  split
  ·exact zdS x f a k L
  ·rename_i hn
   rw[jR f hn,zdS x f a k L,a];omega
theorem Vz(h:ym c m.now m.L m.Gl)(a:c.ok)(x:Nm):zp (kL c m.L x)=zp m.L+1+2*yi c m.L x c.n:=by
 unfold kL;rw[zim]
 have:=zdR h a x qO (fun b=>by simp[qO])
 unfold zp at*;omega
theorem zcC(h:ym c m.now m.L m.Gl)(a:c.ok)(x:Nm):Kz (kL c m.L x)=Kz m.L+1:=by
 unfold kL Kz
 rw[zdS x kf (by simp[kf]) c.n]
 exact zdR h a x kf (fun b=>by simp[kf])
theorem MOk.added(h:MOk c ep m)(z:c.ok)(H:c.fits){x:Nm}(Q:0<=x.sr/\x.sr<4)(J:0<=x.tm/\x.tm<=m.now)(M:m.now-c.la<=x.tm)(hv: -2147483648<=x.val/\x.val<=2147483647)(R:zp m.L+1+2*yi c m.L x c.n<=c.qu):
  MOk c ep {m with L:=kL c m.L x}:=by
 have g:=h.seg
 have I:=h.now
 have O:=z.n1
 have l:=fun(t:Int) (i: -1<=t) (A:t<c.n)=>Ze z i A M
 have hin:=fun(t:Int) (i: -1<=t) (A:t<c.n)=>zdz z Q ⟨J.1,by omega⟩ i A (x:=x)
 have f:∀p,p∈kL c m.L x->(p∈m.L/\p.1≠xk c x)\/p=(xk c x,⟨1,qp x.val ((yy m.L (xk c x)).map (·.cl))⟩)\/∃j:Nat,j<c.n/\p=(zB c (j:Int) x,⟨2,xY⟩)/\zB c (j:Int) x∉zr m.L:=fun p a=>by
  rcases vG x c.n _ a with a|⟨j,i,A,B⟩
  ·rcases qh a with rfl|a
   ·exact .inr (.inl rfl)
   ·exact .inl a
  ·exact .inr (.inr ⟨j,i,A,fun N=>B (xG.2 (.inl N))⟩)
 have u:∀p,p∈m.L->p.1≠xk c x->p∈kL c m.L x:=fun p a o=>kO x c.n _ (by
  unfold qw qT
  split
  ·exact List.mem_map.2 ⟨p,a,by rw[if_neg o]⟩
  ·exact List.mem_append_left _ a)
 have D:(zr (kL c m.L x)).Nodup:=jF x c.n _ (yU g.nl)
 have E:xk c x∈zr (kL c m.L x):=by
  have:(xk c x,(⟨1,qp x.val ((yy m.L (xk c x)).map (·.cl))⟩:SV))∈kL c m.L x:=kO x c.n _ (by
   have q:xk c x∈zr (qw c m.L x):=xG.2 (.inr rfl)
   have:=xu q
   have e:stL (qw c m.L x) (xk c x)=⟨1,qp x.val ((yy m.L (xk c x)).map (·.cl))⟩:=by unfold qw;rw[zdG g.nl,if_pos rfl]
   rw[e]at this;exact this)
  exact List.mem_map.2 ⟨_,this,rfl⟩
 have r:∀k,k∈zr m.L->k∈zr (kL c m.L x):=fun k q=>by
  by_cases e:k=xk c x
  ·rw[e];exact E
  ·obtain⟨p,a,rfl⟩:=List.mem_map.1 (show k∈m.L.map (·.1)from q)
   exact List.mem_map.2 ⟨p,u p a e,rfl⟩
 have G:∀k,k∈zr m.L->k≠xk c x->stL (kL c m.L x) k=stL m.L k:=fun k q o=>zjl D (u _ (xu q) o)
 have P:(xk c x).t= -1:=rfl
 refine⟨h.now,⟨fun p a=>?_,D,fun p a y=>?_,fun p a y=>?_,fun p a=>?_,g.ng,fun p a B=>?_,g.goc,fun p a y=>?_,?_⟩,fun p a=>?_,h.nt,h.leas,h.nq,h.jobs,h.num⟩
 ·rcases f p a with⟨a,_⟩|rfl|⟨j,C,rfl,_⟩
  ·exact g.inr p a
  ·exact hin (-1) (by omega) (by omega)
  ·exact hin j (by omega) (by omega)
 ·rcases f p a with⟨a,_⟩|rfl|⟨j,C,rfl,_⟩
  ·exact g.raw p a y
  ·refine⟨rfl,?_⟩
   dsimp only
   cases K:yy m.L (xk c x)with
   |none=>simp[qp];omega
   |some v=>obtain⟨_,b,_,d,e⟩:=MOk.rawAt g z K;simp only[Option.map_some,qp];omega
  ·have:((j:Int))= -1:=y
   omega
 ·rcases f p a with⟨a,_⟩|rfl|⟨j,C,rfl,_⟩
  ·exact g.tier p a y
  ·have:0<=(xk c x).t:=y
   omega
  ·exact .inl rfl
 ·rcases f p a with⟨a,_⟩|rfl|⟨j,C,rfl,_⟩
  ·exact g.disj p a
  ·exact fun q=>l (-1) (by omega) (by omega) (g.goc _ q)
  ·exact fun q=>l j (by omega) (by omega) (g.goc _ q)
 ·rcases f p a with⟨a,_⟩|rfl|⟨j,C,rfl,_⟩
  ·exact g.pubc p a B
  ·simp at B
  ·simp at B
 ·rcases f p a with⟨a,_⟩|rfl|⟨j,C,rfl,_⟩
  ·rcases g.above p a y with F|F
   ·exact .inl (r _ F)
   ·exact .inr F
  ·left
   show(⟨(c.b:Int),x.sr,(xk c x).wa*c.wi/c.W c.b⟩:Sg)∈_
   rw[zdy z H J.1]
   exact jY x c.n _ c.b H.bn
  ·have:((j:Int))= -1:=y
   omega
 ·show zp (kL c m.L x)<=c.qu
  rw[Vz g z];exact R
 ·have i:=h.td p a
  have o:p.2.s≠xk c x:=fun e=>by
   have:=i.clo
   rw[e]at this
   exact l (-1) (by omega) (by omega) this
  have w:=G _ i.mem o
  exact⟨i.key,r _ i.mem,i.clo,fun e=>by show(stL (kL c m.L x) p.2.s).st=2;rw[w];exact i.roll e,fun e=>by show(stL (kL c m.L x) p.2.s).st≠2;rw[w];exact i.recl e,i.se,i.ti⟩
theorem MOk.not_gone(h:MOk c ep m)(d:c.ok){x:Nm}(f:m.now-c.la<=x.tm){t:Int}(a: -1<=t)(b:t<c.n):zQ m.Gl (zB c t x)=none:=
 xR.2 (fun e=>Ze d a b f (h.seg.goc _ e))
theorem MOk.small(h:MOk c ep m)(g:c.ok):∀p∈m.L,p.1.t= -1->0<=p.2.cl.cnt/\p.2.cl.cnt<=1000000000000/\ -1000000000000000000<=p.2.cl.sum/\p.2.cl.sum<=1000000000000000000:=fun p e f=>by
 obtain⟨_,a,b,d⟩:=h.seg.raw p e f
 have:=h.seg.cnt g p e f
 omega
end
section
variable {c:Cf} {now:Int} {L:LV} {Gl:List (Sg×Unit)}
theorem ym.sts(h:ym c now L Gl):∀p∈L,p.2.st=1\/p.2.st=2\/p.2.st=3:=fun p a=>by
 have b:=h.inr p a
 by_cases d:p.1.t= -1
 ·exact .inl (h.raw p a d).1
 ·exact .inr (h.tier p a (by have:=b.2.1;omega))
theorem ym.held1(h:ym c now L Gl):∀p∈L,p.2.st=1->1<=p.2.cl.cnt:=fun p a e=>by
 have b:=h.inr p a
 by_cases d:p.1.t= -1
 ·exact(h.raw p a d).2.1
 ·have:=h.tier p a (by have:=b.2.1;omega);omega
end
def Y5(c:Cf)(m:MS):Prop:=∃a:List (Sg×Unit),(∀x,x∈zy a↔∃k,k∈zr m.L/\(stL m.L k).st=2/\x∈kS c k)/\(∀s,s∈zr m.L->vx c a m.L m.now s=true->(⟨1,s⟩:Jk)∈zy m.TL)/\(∀s,s∈zr m.L->vm c m.L m.now s=true->(⟨2,s⟩:Jk)∈zy m.TL)
theorem QQ{now:Int}:∀(c:List Sg) {T:List (Jk×Tsk)},(∀k,k∈zy T->k∈zy (c.foldl (yr now) T))/\∀s∈c,(⟨1,s⟩:Jk)∈zy (c.foldl (yr now) T)
 |[],T=>⟨fun _ h=>h,fun s b=>by cases b⟩
 |y::c,T=>by
  have d:∀k,k∈zy T\/k=⟨1,y⟩->k∈zy (yr now T y):=fun k a=>by
   unfold yr
   split
   ·rename_i x hx
    rcases a with a|rfl
    ·exact a
    ·exact List.mem_map.2 ⟨_,zO hx,rfl⟩
   ·exact xw.2 a
  obtain⟨e,f⟩:=QQ c (T:=yr now T y)
  refine⟨fun k a=>e k (d k (.inl a)),fun s b=>?_⟩
  rcases List.mem_cons.1 b with rfl|b
  ·exact e _ (d _ (.inr rfl))
  ·exact f s b
theorem Zy{now:Int}:∀(c:List Sg) {T:List (Jk×Tsk)},(∀k,k∈zy T->k∈zy (c.foldl (yL now) T))/\∀s∈c,(⟨2,s⟩:Jk)∈zy (c.foldl (yL now) T)
 |[],T=>⟨fun _ h=>h,fun s b=>by cases b⟩
 |y::c,T=>by
  have d:∀k,k∈zy T\/k=⟨2,y⟩->k∈zy (yL now T y):=fun k a=>by
   unfold yL
   split
   ·rename_i x hx
    rcases a with a|rfl
    ·exact a
    ·exact List.mem_map.2 ⟨_,zO hx,rfl⟩
   ·exact xw.2 a
  obtain⟨e,f⟩:=Zy c (T:=yL now T y)
  refine⟨fun k a=>e k (d k (.inl a)),fun s b=>?_⟩
  rcases List.mem_cons.1 b with rfl|b
  ·exact e _ (d _ (.inr rfl))
  ·exact f s b
section
variable {c:Cf} {ep:Int} {m:MS} {ns:List Nm}
theorem Y5.of{a:List (Jk×Tsk)}(k:qv c m a):Y5 c {m with TL:=a}:=by
 obtain⟨g,f,b,j,h,i,rfl⟩:=k.to
 exact⟨g,j,fun s e d=>(Zy b).1 _ ((QQ f).2 s ((h s).2 ⟨e,d⟩)),fun s e d=>(Zy b).2 s ((i s).2 ⟨e,d⟩)⟩
end
def kK(QL:List (Tok×Lse))(t:Tok):Int:=match zQ QL t with|some g=>g.til|none=>0
def vB(ep:Int)(k:Nat):List Tok:=(List.range k).map (fun j:Nat=>(⟨ep,(j:Int)+1⟩:Tok))
def qt(ep:Int)(QL:List (Tok×Lse))(k:Nat):List Int:=(List.range k).map (fun j:Nat=>kK QL ⟨ep,(j:Int)+1⟩)
theorem zH(ep:Int)(k:Nat):(vB ep k).length=k:=by simp[vB]
theorem zP(ep:Int)(QL:List (Tok×Lse))(k:Nat):(qt ep QL k).length=k:=by simp[qt]
theorem ko(ep:Int)(k j:Nat)(h:j<k):(vB ep k)[j]?=some ⟨ep,(j:Int)+1⟩:=by simp[vB,h]
theorem yE(ep:Int)(QL:List (Tok×Lse))(k j:Nat)(h:j<k):(qt ep QL k)[j]?=some (kK QL ⟨ep,(j:Int)+1⟩):=by simp[qt,h]
theorem zdX(ep:Int)(k:Nat):vB ep (k+1)=vB ep k++[⟨ep,(k:Int)+1⟩]:=by simp[vB,List.range_succ]
theorem zea(ep:Int)(QL:List (Tok×Lse))(k:Nat):qt ep QL (k+1)=qt ep QL k++[kK QL ⟨ep,(k:Int)+1⟩]:=by simp[qt,List.range_succ]
theorem zbD{ep:Int}{Q Q':List (Tok×Lse)}{k:Nat}(h:∀j:Nat,j<k->kK Q ⟨ep,(j:Int)+1⟩=kK Q' ⟨ep,(j:Int)+1⟩):qt ep Q k=qt ep Q' k:=by
 unfold qt
 exact List.map_congr_left (fun j a=>h j (by simpa using a))
def ziA(s:Sg):Nat:=((s.t+1)*400004+s.sr*100001+s.wa).toNat
def Jm(s:Sg):Prop:=0<=s.sr/\s.sr<4
theorem zhU{c:Cf}(a:c.ok){s:Sg}(h:inR c s)(b:Jm s):ziA s<2000020:=by
 obtain⟨_,d,e,f,g⟩:=h
 obtain⟨i,j⟩:=b
 have:=a.n4
 unfold ziA;omega
theorem zfJ{c:Cf}{s a:Sg}(h:inR c s)(j:Jm s)(i:inR c a)(b:Jm a)(e:ziA s=ziA a):s=a:=by
 obtain⟨_,x,y,z,A⟩:=h
 obtain⟨B,C⟩:=j
 obtain⟨_,n,o,p,q⟩:=i
 obtain⟨u,w⟩:=b
 obtain⟨t,r,v⟩:=s
 obtain⟨l,k,m⟩:=a
 unfold ziA at e
 dsimp only at*
 have d:t=l:=by omega
 have f:r=k:=by omega
 have g:v=m:=by omega
 rw[d,f,g]
structure SOk(c:Cf)(ep:Int)(m:MS)(nn:Nat):Prop where
 ok:MOk c ep m
 gin:∀k∈zy m.Gl,inR c k/\Jm k
 lin:∀k∈zr m.L,Jm k
 held:Kz m.L<=nn
section
variable {c:Cf} {ep:Int} {m:MS} {nn:Nat}
theorem SOk.gl(h:SOk c ep m nn)(n:c.ok):m.Gl.length<=2000020:=by
 have k:=j4 ((zy m.Gl).map ziA) (List.range 2000020) ?_ ?_
 ·simpa[zy]using k
 ·have hn:=h.ok.seg.ng
  have d:=h.gin
  generalize zy m.Gl=l at*
  rw[List.nodup_iff_pairwise_ne,List.pairwise_map]
  refine(List.nodup_iff_pairwise_ne.1 hn).imp_of_mem ?_
  intro a b g i f e
  exact f (zfJ (d a g).1 (d a g).2 (d b i).1 (d b i).2 e)
 ·intro x o
  obtain⟨s,j,rfl⟩:=List.mem_map.1 o
  exact List.mem_range.2 (zhU n (h.gin s j).1 (h.gin s j).2)
theorem MOk.unt_pos(h:MOk c ep m){t:Tok}{g:Lse}(a:zQ m.QL t=some g):kK m.QL t=g.til/\0<g.til:=by
 have b:=(h.leas _ (zO a)).til
 have d:=h.now
 refine⟨by unfold kK;rw[a],by dsimp only at b;omega⟩
theorem MOk.unt_none{t:Tok}(a:zQ m.QL t=none):kK m.QL t=0:=by unfold kK;rw[a]
theorem zik{QL:List (Tok×Lse)}(hn:(zy QL).Nodup)(t k:Tok):kK (xe QL t) k=if k=t then 0 else kK QL k:=by
 unfold kK;rw[Yg hn]
 by_cases e:k=t
 ·rw[if_pos e,if_pos e]
 ·rw[if_neg e,if_neg e]
theorem zeb{QL:List (Tok×Lse)}(hn:(zy QL).Nodup)(t k:Tok)(g:Lse):kK (qq QL t g) k=if k=t then g.til else kK QL k:=by
 unfold kK;rw[vi hn]
 by_cases e:k=t
 ·rw[if_pos e,if_pos e]
 ·rw[if_neg e,if_neg e]
theorem YR{QL:List (Tok×Lse)}(hn:(zy QL).Nodup)(k j:Nat):qt ep (xe QL ⟨ep,(j:Int)+1⟩) k=(qt ep QL k).set j 0:=by
 apply List.ext_getElem?
 intro i
 rw[List.getElem?_set]
 by_cases a:i<k
 ·rw[yE _ _ _ _ a,zik hn,yE _ _ _ _ a,zP]
  by_cases e:j=i
  ·subst e;simp[a]
  ·rw[if_neg (by intro h;injection h with _ h;omega),if_neg e]
 ·have b:(qt ep (xe QL ⟨ep,(j:Int)+1⟩) k)[i]?=none:=List.getElem?_eq_none (by rw[zP];omega)
  have c:(qt ep QL k)[i]?=none:=List.getElem?_eq_none (by rw[zP];omega)
  rw[b,c]
  split
  ·rename_i e;subst e;rw[if_neg (by rw[zP];exact a)]
  ·rfl
theorem Vy{QL:List (Tok×Lse)}(k j:Nat)(h:kK QL ⟨ep,(j:Int)+1⟩=0):(qt ep QL k).set j 0=qt ep QL k:=by
 apply List.ext_getElem?
 intro i
 rw[List.getElem?_set]
 by_cases a:i<k
 ·rw[yE _ _ _ _ a,zP]
  by_cases e:j=i
  ·subst e;simp[a,h]
  ·rw[if_neg e]
 ·have b:(qt ep QL k)[i]?=none:=List.getElem?_eq_none (by rw[zP];omega)
  rw[b]
  split
  ·rename_i e;subst e;rw[if_neg (by rw[zP];exact a)]
  ·rfl
theorem zfY{QL:List (Tok×Lse)}(hn:(zy QL).Nodup)(k:Nat)(g:Lse):qt ep (qq QL ⟨ep,(k:Int)+1⟩ g) (k+1)=qt ep QL k++[g.til]:=by
 rw[zea,zeb hn,if_pos rfl]
 congr 1
 exact zbD (fun j a=>by rw[zeb hn,if_neg (by intro h;injection h with _ h;omega)])
def zaw(n:Int)(u:Int):Int:=if u<=n then 0 else u
theorem SOk.tick(w:c.ok)(x:c.fits)(h:SOk c ep m nn){n:Int}(hn:1<=n)(i:m.now+n<=100000){e d:List (Jk×Tsk)}{a:List (Tok×Lse)}(q:YV (m.now+n) m.TL m.QL e a)(s:∀p∈a,m.now+n<p.2.til)
  (y:qv c {m with now:=m.now+n,TL:=e,QL:=a} d):
  SOk c ep {m with now:=m.now+n,TL:=d,QL:=a} nn/\∀k,qt ep a k=(qt ep m.QL k).map (zaw (m.now+n)):=by
 have u:=h.ok.exps (n':=m.now+n) ⟨by omega,i⟩ q s
 obtain⟨v,_,_⟩:=MOk.post w x u y
 refine⟨⟨v,h.gin,h.lin,h.held⟩,fun k=>?_⟩
 obtain⟨_,_,i3,_,i5,A,_,_⟩:=Ye (ep:=ep) (c:=c) (L:=m.L) (num:=m.num) (show m.now<=m.now+n by omega) h.ok.td h.ok.nt h.ok.leas h.ok.nq h.ok.jobs q
 have z:∀t,kK a t=zaw (m.now+n) (kK m.QL t):=fun t=>by
  have o:=h.ok.now
  unfold zaw
  cases f:zQ m.QL t with
  |none=>
   have:zQ a t=none:=by
    cases b:zQ a t with
    |none=>rfl
    |some g=>exact absurd (qB h.ok.nq (i5 _ (zO b))) (by rw[f];simp)
   rw[MOk.unt_none f,show kK a t=0 from by unfold kK;rw[this]];split<;>rfl
  |some g=>
   rw[(h.ok.unt_pos f).1]
   by_cases r:g.til<=m.now+n
   ·rw[if_pos r]
    have:zQ a t=none:=by
     cases b:zQ a t with
     |none=>rfl
     |some B=>
      have l:=qB h.ok.nq (i5 _ (zO b))
      rw[f]at l;injection l with l
      have a2:=s _ (zO b)
      rw[<-l]at a2
      dsimp only at a2;omega
    unfold kK;rw[this]
   ·rw[if_neg r]
    have:=qB i3 (A _ (zO f) (by dsimp only;omega))
    unfold kK;rw[this]
 unfold qt
 rw[List.map_map]
 exact List.map_congr_left (fun j _=>z _)
theorem SOk.take(b:c.ok)(h:SOk c ep m nn){p:Jk×Tsk}(e:p∈m.TL)(f:p.2.rest<=m.now)(d:kh m.QL p.2.key=false)(slot:Int):
  SOk c ep {m with num:=m.num+1,QL:=qq m.QL ⟨ep,m.num+1⟩ ⟨p.2.kd,p.2.s,slot,m.now+c.le⟩} nn:=by
 have a:=(h.ok.picked b (k:=p.1) (x:=p.2) (qB h.ok.nt e) f d slot).1
 exact⟨a,h.gin,h.lin,h.held⟩
theorem SOk.fail(h:SOk c ep m nn){t:Tok}{g:Lse}{x:Tsk}(a:zQ m.QL t=some g)(b:zQ m.TL g.job=some x):
  SOk c ep {m with TL:=qq m.TL g.job (x.failed m.now),QL:=xe m.QL t} nn:=⟨h.ok.failed a b,h.gin,h.lin,h.held⟩
theorem SOk.job(h:SOk c ep m nn)(p:c.ok){t:Tok}{g:Lse}(j:zQ m.QL t=some g):∃x,zQ m.TL g.job=some x/\g.job.wf/\inR c x.s/\(x.rl=true->∃k:Nat,x.s.t=k)/\0<=x.ti/\x.ti<=1000000:=by
 obtain⟨x,f,q⟩:=(h.ok.leas _ (zO j)).job
 have d:=zO f
 have a:=h.ok.td _ d
 have hin:=h.ok.mem_inR a.mem
 refine⟨x,f,h.ok.wfk _ d,hin,fun e=>?_,?_⟩
 ·have b:=a.roll e
  have l:=xu a.mem
  refine⟨x.s.t.toNat,?_⟩
  have n: -1<=x.s.t:=hin.2.1
  have o:x.s.t≠ -1:=fun i=>by
   have:=(h.ok.seg.raw _ l i).1
   dsimp only at this b;omega
  omega
 ·have b:=a.ti
  have:=h.ok.now
  dsimp only at b;omega
theorem Ky(h:ym c m.now m.L m.Gl){s:Sg}(b:s∈zr m.L):0<=kf (stL m.L s):=by
 have a:=xu b
 unfold kf
 split
 ·rename_i h1;have:=h.held1 _ a h1;dsimp only at this;omega
 ·exact Int.le_refl _
theorem SOk.roll(q:c.ok)(r:c.fits)(h:SOk c ep m nn){t:Tok}{g:Lse}{s:Sg}{se ti rest:Int}(u:zQ m.QL t=some g)(w:zQ m.TL g.job=some ⟨true,s,se,ti,rest⟩)(a:Cl){b:List (Jk×Tsk)}
  (v:qv c {m with L:=qT m.L s ⟨3,a⟩,Gl:=m.Gl,TL:=xe m.TL g.job,QL:=xe m.QL t} b):
  SOk c ep {m with L:=qT m.L s ⟨3,a⟩,Gl:=m.Gl,TL:=b,QL:=xe m.QL t} nn/\zg (qT m.L s ⟨3,a⟩) 2=zg m.L 2-1:=by
 obtain⟨j,f,l,n⟩:=h.ok.rolled u w rfl a
 dsimp only at j f l n
 have o:=(MOk.post q r j v).1
 refine⟨⟨o,h.gin,fun k i=>?_,?_⟩,?_⟩
 ·rcases xG.1 i with i|rfl
  ·exact h.lin k i
  ·exact h.lin _ n
 ·have:=f kf
  have x:=h.held
  have d:kf (stL m.L s)=0:=by unfold kf;rw[if_neg (by omega)]
  have e:kf ⟨3,a⟩=0:=by simp[kf]
  rw[d,e]at this
  unfold Kz at*
  show qr ((qT m.L s ⟨3,a⟩).map (fun p=>kf p.2))<=_
  omega
 ·have:=f (Qz 2)
  have d:Qz 2 (stL m.L s)=1:=by unfold Qz;rw[if_pos l]
  have e:Qz 2 ⟨3,a⟩=0:=by simp[Qz]
  rw[d,e]at this
  unfold zg
  omega
theorem SOk.reclaim(o:c.ok)(q:c.fits)(h:SOk c ep m nn){t:Tok}{g:Lse}{s:Sg}{se ti rest:Int}(r:zQ m.QL t=some g)(u:zQ m.TL g.job=some ⟨false,s,se,ti,rest⟩){a:List (Jk×Tsk)}
  (e:qv c {m with L:=xe m.L s,Gl:=qq m.Gl s (),TL:=xe m.TL g.job,QL:=xe m.QL t} a):
  SOk c ep {m with L:=xe m.L s,Gl:=qq m.Gl s (),TL:=a,QL:=xe m.QL t} nn/\(qq m.Gl s ()).length=m.Gl.length+1:=by
 obtain⟨f,i,l,d,j⟩:=h.ok.reclaimed r u rfl
 dsimp only at f i l d j
 have n:=(MOk.post o q f e).1
 refine⟨⟨n,fun k b=>?_,fun k b=>?_,?_⟩,j⟩
 ·rcases xw.1 b with b|rfl
  ·exact h.gin k b
  ·exact⟨h.ok.mem_inR d,h.lin _ d⟩
 ·obtain⟨p,e,rfl⟩:=List.mem_map.1 (show k∈(xe m.L s).map (·.1)from b)
  exact h.lin _ (List.mem_map.2 ⟨p,(xc.1 e).1,rfl⟩)
 ·have:=i kf
  have v:=h.held
  have w:=Ky h.ok.seg d
  unfold Kz at*
  show qr ((xe m.L s).map (fun p=>kf p.2))<=_
  omega
theorem zer{x:Nm}(b:0<=x.sr/\x.sr<4){L:LV}(h:∀k∈zr L,Jm k):∀k∈zr (kL c L x),Jm k:=fun k d=>by
 obtain⟨p,a,rfl⟩:=List.mem_map.1 (show k∈(kL c L x).map (·.1)from d)
 rcases vG x c.n _ a with a|⟨j,e,rfl,f⟩
 ·rcases qh a with rfl|⟨a,_⟩
  ·exact b
  ·exact h _ (List.mem_map.2 ⟨p,a,rfl⟩)
 ·exact b
theorem SOk.ingest(a:c.ok)(d:c.fits)(h:SOk c ep m nn){x:Nm}(b:0<=x.sr/\x.sr<4)(f:0<=x.tm/\x.tm<=m.now)(e:m.now-c.la<=x.tm)(hv: -2147483648<=x.val/\x.val<=2147483647)(j:zp m.L+(1+2*yi c m.L x c.n)<=c.qu):
  SOk c ep {m with L:=kL c m.L x} (nn+1)/\zp (kL c m.L x)=zp m.L+1+2*yi c m.L x c.n:=by
 refine⟨⟨h.ok.added a d b f e hv (by omega),h.gin,zer b h.lin,?_⟩,Vz h.ok.seg a x⟩
 have g:=zcC h.ok.seg a x
 have i:=h.held
 show Kz (kL c m.L x)<=((nn+1:Nat):Int)
 omega
theorem SOk.new(a:c.ok):SOk c ep ⟨0,[],[],0,[],[]⟩ 0:=by
 have b:=a.qu
 refine⟨⟨by dsimp only;omega,⟨by simp,by simp[zr],by simp,by simp,by simp,by simp[zy],by simp,by simp[zy],by simp,?_⟩,by simp,by simp[zy],by simp,by simp[zy],by simp,by dsimp only;omega⟩,by simp[zy],by simp[zr],?_⟩
 ·show zp []<=c.qu
  simp[zp,qr];omega
 ·simp[Kz,qr]
end
theorem Kw{c:Cf}(g:c.ok){L:LV}{k:Sg}(i:inR c k):ZI c L k=true↔∀x∈kS c k,(stL L x).st≠2:=by
 have b:=vN g i
 unfold ZI
 constructor
 ·intro h x j e
  have f:((kr c k).filter (fun x=>(stL L x.1).st==2)).length=0:=by
   have:=of_decide_eq_true (show decide ((((kr c k).filter (fun x=>(stL L x.1).st==2)).length:Int)=0)=true from by simpa using h)
   omega
  obtain⟨y,a,d⟩:=List.mem_map.1 ((b x).2 j)
  have:y∈(kr c k).filter (fun x=>(stL L x.1).st==2):=List.mem_filter.2 ⟨a,by rw[d];simpa using e⟩
  rw[List.eq_nil_of_length_eq_zero f]at this;simp at this
 ·intro h
  have:(kr c k).filter (fun x=>(stL L x.1).st==2)=[]:=List.filter_eq_nil_iff.2 (fun y a e=>h y.1 ((b y.1).1 (List.mem_map.2 ⟨y,a,rfl⟩)) (by simpa using e))
  rw[this];rfl
theorem JF{n:Int}{T:List (Jk×Tsk)}{Q:List (Tok×Lse)}(h:YV n [] [] T Q):T=[]/\Q=[]:=by
 induction h with
 |nil=>exact⟨rfl,rfl⟩
 |step _ a _ _ b=>rw[b.2]at a;simp[zQ]at a
theorem Ks{α β:Type}(f:β->α->β)(a:α)(b b':β)(g:f b a=b')(i:f b' a=b'):∀(l:List α),(∀x∈l,x=a)->a∈l->l.foldl f b=b'
 |[],_,h=>by cases h
 |x::l,d,_=>by
  have e:=d x (by simp)
  subst e
  show l.foldl f (f b x)=b'
  rw[g]
  have:∀(l:List α),(∀y∈l,y=x)->l.foldl f b'=b':=fun l=>by
   induction l with
   |nil=>intro _;rfl
   |cons y l k=>intro c;have e:=c y (by simp);subst e;show l.foldl f (f b' y)=b';rw[i];exact k (fun z j=>c z (by simp[j]))
  exact this l (fun y c=>d y (by simp[c]))
theorem zdb{α:Type}{l:List α}(h:∀x,x∉l):l=[]:=by
 cases l with
 |nil=>rfl
 |cons a l=>exact absurd (by simp) (h a)
def awC:Cf:=⟨1,9,0,2,4,9,1,fun _=> -1,fun _=>2,fun _=>100⟩
theorem Kb:xU awC.s awC.le awC.la awC.wi awC.ke awC.qu awC.n awC.F awC.W awC.K=true:=by decide
theorem jq:awC.ok:=Zd Kb
theorem zev:awC.fits:=⟨by decide,rfl,⟨1,by omega,rfl⟩,fun i a=>⟨by show(-1:Int)<= -1;omega,by show(-1:Int)<((1:Nat):Int);omega⟩,fun i a=>⟨1,by omega,rfl⟩,fun i a=>by
 have e:i=0:=by have:awC.n=1:=rfl;omega
 subst e;rfl⟩
def awR:Sg:=⟨-1,1,0⟩
def awT:Sg:=⟨0,1,0⟩
def zjq:Cl:=⟨1,7,7,7⟩
def zbX:LV:=[(awR,⟨1,zjq⟩),(awT,⟨2,xY⟩)]
def zek:LV:=[(awR,⟨1,zjq⟩),(awT,⟨3,zjq⟩)]
def ziG:LV:=[(awT,⟨3,zjq⟩)]
theorem zca:qT zbX awT ⟨3,xi (zW awC zbX 1 0 0)⟩=zek:=by kernel_rfl
theorem Qt:inR awC awR:=by unfold inR Sg.wf xh awR awC;dsimp only;omega
theorem Kc:inR awC awT:=by unfold inR Sg.wf xh awT awC;dsimp only;omega
theorem ziH:kS awC awR=[awT]:=by rfl
theorem zjD:kS awC awT=[]:=by rfl
def zjr:List (Jk×Tsk):=[(⟨1,awT⟩,⟨true,awT,6,0,0⟩)]
def zjs:List (Jk×Tsk):=[(⟨2,awR⟩,⟨false,awR,6,0,0⟩)]
def zjz:MS:=⟨0,zbX,[],0,[],[]⟩
def zjA:MS:=⟨6,zbX,[],0,zjr,[]⟩
def awQ1:List (Tok×Lse):=[(⟨1,1⟩,⟨1,awT,0,15⟩)]
def ziy:MS:=⟨6,zbX,[],1,zjr,awQ1⟩
def zjB:MS:=⟨6,zek,[],1,zjs,[]⟩
def awQ2:List (Tok×Lse):=[(⟨1,2⟩,⟨2,awR,0,15⟩)]
def zjC:MS:=⟨6,zek,[],2,zjs,awQ2⟩
theorem zey{d:List (Jk×Tsk)}(h:qv awC ⟨6,zbX,[],0,[],[]⟩ d):d=zjr:=by
 obtain⟨i,c,g,q,j,p,rfl⟩:=h.to
 dsimp only at*
 have r:zy i=[]:=zdb (fun x f=>by
  obtain⟨k,a,e,f⟩:=(q x).1 f
  simp[zbX,zr]at a
  rcases a with rfl|rfl
  ·exact absurd e (by decide)
  ·rw[zjD]at f;cases f)
 have l:∀k,zQ i k=none:=fun k=>xR.2 (by rw[r];simp)
 have m:∀s∈c,s=awT:=fun s e=>by
  obtain⟨a,b⟩:=(j s).1 e
  simp[zbX,zr]at a
  rcases a with rfl|rfl
  ·unfold vx at b;rw[l]at b;exact absurd b (by decide)
  ·rfl
 have n:awT∈c:=(j awT).2 ⟨by simp[zbX,zr],by unfold vx;rw[l];decide⟩
 have o:g=[]:=zdb (fun s e=>by
  obtain⟨a,b⟩:=(p s).1 e
  simp[zbX,zr]at a
  unfold vm at b
  simp only[Bool.and_eq_true]at b
  rcases a with rfl|rfl
  ·exact(Kw jq Qt).1 b.2 awT (by rw[ziH];simp) (by decide)
  ·exact absurd b.1.1 (by decide))
 rw[o]
 exact Ks (yr 6) awT [] zjr (by rfl) (by rfl) c m n
theorem zez{num:Int}{c:List (Jk×Tsk)}(h:qv awC ⟨6,zek,[],num,[],[]⟩ c):c=zjs:=by
 obtain⟨n,g,b,o,m,i,rfl⟩:=h.to
 dsimp only at*
 have j:g=[]:=zdb (fun s e=>by
  obtain⟨d,a⟩:=(m s).1 e
  simp[zek,zr]at d
  unfold vx at a
  simp only[Bool.and_eq_true]at a
  rcases d with rfl|rfl
  ·exact absurd a.1.2 (by decide)
  ·exact absurd a.1.2 (by decide))
 have k:∀s∈b,s=awR:=fun s e=>by
  obtain⟨d,a⟩:=(i s).1 e
  simp[zek,zr]at d
  unfold vm at a
  simp only[Bool.and_eq_true]at a
  rcases d with rfl|rfl
  ·rfl
  ·exact absurd a.1.2 (by decide)
 have l:awR∈b:=(i awR).2 ⟨by simp[zek,zr],by
  unfold vm
  simp only[Bool.and_eq_true]
  refine⟨⟨by decide,by decide⟩,(Kw jq Qt).2 (fun x f=>?_)⟩
  rw[ziH]at f
  simp at f
  subst f
  decide⟩
 rw[j]
 exact Ks (yL 6) awR [] zjs (by rfl) (by rfl) b k l
end Go.Proofs.YtndhpgciopcncaaGreatDoor
