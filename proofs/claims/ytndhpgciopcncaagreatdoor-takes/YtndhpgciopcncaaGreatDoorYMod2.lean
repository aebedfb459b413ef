import Derived.Test.YtndhpgciopcncaaGreatDoorYBrd2
open Option renaming some → I
set_option linter.unusedVariables false
namespace Go.Proofs.YtndhpgciopcncaaGreatDoor
open Go.RowKit Go.Maps Go.Shelf
def yn(v:SV):Int:=if v.st=1 then v.cl.cnt else 0
def Xa(L:LV):Int:=xI (L.map (fun p=>yn p.2))
section
variable {c:Cf} {L:LV}
theorem vR(x:Nm):∀(k:Nat) (L:LV) {p:Sg×SV},p∈yI c x k L->p∈L\/∃j:Nat,j<k/\p=(zt c (j:Int) x,⟨2,qC⟩)/\zt c (j:Int) x∉zl L
 |0,L,p,h=> .inl h
 |k+1,L,p,h=>by
  have d:p∈xF c x k (yI c x k L):=h
  unfold xF at d
  split at d
  ·rcases vR x k L d with a|⟨j,a,b⟩
   ·exact .inl a
   ·exact .inr ⟨j,by omega,b⟩
  ·rename_i hn
   rcases xS d with rfl|⟨d,_⟩
   ·refine .inr ⟨k,by omega,rfl,fun g=>hn ?_⟩
    clear h d hn
    have e:∀(k:Nat) (s:Sg),s∈zl L->s∈zl (yI c x k L):=fun k=>by
     induction k with
     |zero=>exact fun s h=>h
     |succ k f=>intro s h;show s∈zl (xF c x k _);unfold xF;split;exact f s h;exact xw.2 (.inl (f s h))
    exact e k _ g
   ·rcases vR x k L d with a|⟨j,a,b⟩
    ·exact .inl a
    ·exact .inr ⟨j,by omega,b⟩
theorem kZ(x:Nm):∀(k:Nat) (L:LV) {p:Sg×SV},p∈L->p∈yI c x k L
 |0,L,p,h=>h
 |k+1,L,p,h=>by
  have a:=kZ x k L h
  show p∈xF c x k (yI c x k L)
  unfold xF
  split
  ·exact a
  ·rename_i hn
   unfold yL;rw[if_neg hn];exact List.mem_append_left _ a
theorem jY(x:Nm):∀(k:Nat) (L:LV),(zl L).Nodup->(zl (yI c x k L)).Nodup
 |0,L,h=>h
 |k+1,L,h=>by
  show(zl (xF c x k (yI c x k L))).Nodup
  unfold xF
  split
  ·exact jY x k L h
  ·exact kc (jY x k L h)
theorem Zk(x:Nm):∀(k:Nat) (L:LV) (j:Nat),j<k->zt c (j:Int) x∈zl (yI c x k L)
 |k+1,L,j,h=>by
  show _∈zl (xF c x k (yI c x k L))
  unfold xF
  split
  ·rename_i hm
   by_cases e:j=k
   ·subst e;exact hm
   ·exact Zk x k L j (by omega)
  ·by_cases e:j=k
   ·subst e;exact xw.2 (.inr rfl)
   ·exact xw.2 (.inl (Zk x k L j (by omega)))
theorem jA{now:Int}(d:c.ok){x:Nm}{t:Int}(a: -1<=t)(b:t<c.n)(f:now-c.la<=x.tm):¬c.clo now (zt c t x):=by
 obtain⟨e,_⟩:=d.wh a b
 have:x.tm<(x.tm/c.wh t+1)*c.wh t:=Int.lt_ediv_add_one_mul_self _ (by omega)
 unfold Cf.clo zt
 dsimp only
 omega
theorem zfl(d:c.ok){x:Nm}(h:0<=x.se/\x.se<4)(e:0<=x.tm/\x.tm<=100000){t:Int}(a: -1<=t)(b:t<c.n):inR c (zt c t x):=by
 obtain⟨i,_⟩:=d.wh a b
 have hn:=d.n4
 have f:0<=x.tm/c.wh t:=Int.ediv_nonneg e.1 (by omega)
 have g:x.tm/c.wh t<=x.tm:=Int.ediv_le_self _ e.1
 refine⟨⟨?_,?_,?_⟩,a,b,f,?_⟩
 ·show xR t;unfold xR;omega
 ·show xR x.se;unfold xR;omega
 ·show xR (x.tm/c.wh t);unfold xR;omega
 ·show x.tm/c.wh t<=100000;omega
theorem zfk(f:c.ok)(g:c.fits){x:Nm}(j:0<=x.tm):(⟨(c.b:Int),x.se,(xc c x).wn*c.wi/c.W c.b⟩:Sg)=zt c (c.b:Int) x:=by
 obtain⟨q,i,e⟩:=g.div0
 have h:=f.wi1
 have a:c.wh (c.b:Int)=c.W c.b:=by unfold Cf.wh zY;rw[if_neg (by omega)];simp
 have d:c.wh (-1)=c.wi:=by unfold Cf.wh zY;rw[if_pos rfl]
 unfold xc zt
 rw[a,d]
 dsimp only
 have:x.tm/c.wi*c.wi/c.W c.b=x.tm/c.W c.b:=by
  rw[e,Int.mul_comm c.wi q,Int.mul_ediv_mul_of_pos_left _ _ (by omega),Int.ediv_ediv_of_nonneg (by omega),Int.mul_comm c.wi q]
 rw[this]
end
section
variable {c:Cf} {ep:Int} {m:MS}
theorem MOk.rawAt(h:yA c m.now m.L m.Gl)(f:c.ok){x:Nm}{v:SV}(hv:ku m.L (xc c x)=I v):v.st=1/\1<=v.cl.cnt/\v.cl.cnt<=400/\ -(v.cl.cnt*2147483648)<=v.cl.sum/\v.cl.sum<=v.cl.cnt*2147483648:=by
 have e:=vu hv
 obtain⟨a,b,d⟩:=h.raw _ e rfl
 exact⟨a,b,h.cnt f _ e rfl,d⟩
theorem zfB(h:yA c m.now m.L m.Gl)(i:c.ok)(x:Nm)(f:SV->Int)(a:∀d:Cl,f ⟨1,d⟩=d.cnt):xI ((qE c m.L x).map (fun p=>f p.2))=xI (m.L.map (fun p=>f p.2))+1:=by
 unfold qE
 cases b:ku m.L (xc c x)with
 |none=>rw[Zd f (ya.1 b),a];simp[qs]
 |some v=>
  obtain⟨g,_⟩:=MOk.rawAt h i b
  rw[Ks h.nl (vu b) f,a]
  have:f v=v.cl.cnt:=by
   have e:v=⟨1,v.cl⟩:=by cases v;simp at g;subst g;rfl
   rw[e,a]
  rw[this];simp[qs];omega
theorem zfC(x:Nm)(f:SV->Int)(a:f ⟨2,qC⟩=0):∀(k:Nat) (L:LV),xI ((yI c x k L).map (fun p=>f p.2))=xI (L.map (fun p=>f p.2))
 |0,L=>rfl
 |k+1,L=>by
  show xI ((xF c x k (yI c x k L)).map (fun p=>f p.2))=_
  unfold xF
  split
  ·exact zfC x f a k L
  ·rename_i hn
   rw[Zd f hn,zfC x f a k L,a];omega
theorem Jz(h:yA c m.now m.L m.Gl)(a:c.ok)(x:Nm):zU (yH c m.L x)=zU m.L+1+2*qK c m.L x c.n:=by
 unfold yH;rw[zjp]
 have:=zfB h a x yj (fun b=>by simp[yj])
 unfold zU at*;omega
theorem zee(h:yA c m.now m.L m.Gl)(a:c.ok)(x:Nm):Xa (yH c m.L x)=Xa m.L+1:=by
 unfold yH Xa
 rw[zfC x yn (by simp[yn]) c.n]
 exact zfB h a x yn (fun b=>by simp[yn])
theorem MOk.added(h:MOk c ep m)(z:c.ok)(J:c.fits){x:Nm}(S:0<=x.se/\x.se<4)(M:0<=x.tm/\x.tm<=m.now)(O:m.now-c.la<=x.tm)(hv: -2147483648<=x.val/\x.val<=2147483647)(T:zU m.L+1+2*qK c m.L x c.n<=c.qu):
  MOk c ep {m with L:=yH c m.L x}:=by
 have g:=h.seg
 have K:=h.now
 have Q:=z.n1
 have l:=fun(t:Int) (i: -1<=t) (A:t<c.n)=>jA z i A O
 have C:=fun(t:Int) (i: -1<=t) (A:t<c.n)=>zfl z S ⟨M.1,by omega⟩ i A (x:=x)
 have f:∀p,p∈yH c m.L x->(p∈m.L/\p.1≠xc c x)\/p=(xc c x,⟨1,qs x.val ((ku m.L (xc c x)).map (·.cl))⟩)\/∃j:Nat,j<c.n/\p=(zt c (j:Int) x,⟨2,qC⟩)/\zt c (j:Int) x∉zl m.L:=fun p a=>by
  rcases vR x c.n _ a with a|⟨j,i,A,B⟩
  ·rcases xS a with rfl|a
   ·exact .inr (.inl rfl)
   ·exact .inl a
  ·exact .inr (.inr ⟨j,i,A,fun P=>B (xw.2 (.inl P))⟩)
 have u:∀p,p∈m.L->p.1≠xc c x->p∈yH c m.L x:=fun p a o=>kZ x c.n _ (by
  unfold qE yL
  split
  ·exact List.mem_map.2 ⟨p,a,by rw[if_neg o]⟩
  ·exact List.mem_append_left _ a)
 have E:(zl (yH c m.L x)).Nodup:=jY x c.n _ (kc g.nl)
 have F:xc c x∈zl (yH c m.L x):=by
  have:(xc c x,(⟨1,qs x.val ((ku m.L (xc c x)).map (·.cl))⟩:SV))∈yH c m.L x:=kZ x c.n _ (by
   have q:xc c x∈zl (qE c m.L x):=xw.2 (.inr rfl)
   have:=zN q
   have e:stL (qE c m.L x) (xc c x)=⟨1,qs x.val ((ku m.L (xc c x)).map (·.cl))⟩:=by unfold qE;rw[zfq g.nl,if_pos rfl]
   rw[e]at this;exact this)
  exact List.mem_map.2 ⟨_,this,rfl⟩
 have r:∀k,k∈zl m.L->k∈zl (yH c m.L x):=fun k q=>by
  by_cases e:k=xc c x
  ·rw[e];exact F
  ·obtain⟨p,a,rfl⟩:=List.mem_map.1 (show k∈m.L.map (·.1)from q)
   exact List.mem_map.2 ⟨p,u p a e,rfl⟩
 have H:∀k,k∈zl m.L->k≠xc c x->stL (yH c m.L x) k=stL m.L k:=fun k q o=>zkg E (u _ (zN q) o)
 have R:(xc c x).t= -1:=rfl
 refine⟨h.now,⟨fun p a=>?_,E,fun p a y=>?_,fun p a y=>?_,fun p a=>?_,g.ng,fun p a B=>?_,g.goc,fun p a y=>?_,?_⟩,fun p a=>?_,h.nt,h.leas,h.nq,h.jobs,h.num⟩
 ·rcases f p a with⟨a,_⟩|rfl|⟨j,D,rfl,_⟩
  ·exact g.inr p a
  ·exact C (-1) (by omega) (by omega)
  ·exact C j (by omega) (by omega)
 ·rcases f p a with⟨a,_⟩|rfl|⟨j,D,rfl,_⟩
  ·exact g.raw p a y
  ·refine⟨rfl,?_⟩
   dsimp only
   cases N:ku m.L (xc c x)with
   |none=>simp[qs];omega
   |some v=>obtain⟨_,b,_,d,e⟩:=MOk.rawAt g z N;simp only[Option.map_some,qs];omega
  ·have:((j:Int))= -1:=y
   omega
 ·rcases f p a with⟨a,_⟩|rfl|⟨j,D,rfl,_⟩
  ·exact g.tier p a y
  ·have:0<=(xc c x).t:=y
   omega
  ·exact .inl rfl
 ·rcases f p a with⟨a,_⟩|rfl|⟨j,D,rfl,_⟩
  ·exact g.disj p a
  ·exact fun q=>l (-1) (by omega) (by omega) (g.goc _ q)
  ·exact fun q=>l j (by omega) (by omega) (g.goc _ q)
 ·rcases f p a with⟨a,_⟩|rfl|⟨j,D,rfl,_⟩
  ·exact g.pubc p a B
  ·simp at B
  ·simp at B
 ·rcases f p a with⟨a,_⟩|rfl|⟨j,D,rfl,_⟩
  ·rcases g.above p a y with G|G
   ·exact .inl (r _ G)
   ·exact .inr G
  ·left
   show(⟨(c.b:Int),x.se,(xc c x).wn*c.wi/c.W c.b⟩:Sg)∈_
   rw[zfk z J M.1]
   exact Zk x c.n _ c.b J.bn
  ·have:((j:Int))= -1:=y
   omega
 ·show zU (yH c m.L x)<=c.qu
  rw[Jz g z];exact T
 ·have i:=h.tk p a
  have o:p.2.s≠xc c x:=fun e=>by
   have:=i.clo
   rw[e]at this
   exact l (-1) (by omega) (by omega) this
  have w:=H _ i.mem o
  exact⟨i.key,r _ i.mem,i.clo,fun e=>by show(stL (yH c m.L x) p.2.s).st=2;rw[w];exact i.roll e,fun e=>by show(stL (yH c m.L x) p.2.s).st≠2;rw[w];exact i.recl e,i.si,i.tc⟩
theorem MOk.small(h:MOk c ep m)(g:c.ok):∀p∈m.L,p.1.t= -1->0<=p.2.cl.cnt/\p.2.cl.cnt<=1000000000000/\ -1000000000000000000<=p.2.cl.sum/\p.2.cl.sum<=1000000000000000000:=fun p e f=>by
 obtain⟨_,a,b,d⟩:=h.seg.raw p e f
 have:=h.seg.cnt g p e f
 omega
end
section
variable {c:Cf} {now:Int} {L:LV} {Gl:List (Sg×Unit)}
theorem Kt:∀(L:LV),(∀p∈L,p.2.st=1\/p.2.st=2\/p.2.st=3)->zU L=Xa L+2*(xy L 2+xy L 3)
 |[],_=>by simp[zU,Xa,xy,xI]
 |p::L,h=>by
  have b:=Kt L (fun q a=>h q (by simp[a]))
  unfold zU Xa xy at*
  simp only[List.map_cons,xI]
  have:=h p (by simp)
  unfold yj yn Yu
  rcases this with e|e|e<;>simp[e]<;>unfold yj yn Yu at b<;>omega
theorem yA.sts(h:yA c now L Gl):∀p∈L,p.2.st=1\/p.2.st=2\/p.2.st=3:=fun p a=>by
 have b:=h.inr p a
 by_cases d:p.1.t= -1
 ·exact .inl (h.raw p a d).1
 ·exact .inr (h.tier p a (by have:=b.2.1;omega))
theorem yA.held1(h:yA c now L Gl):∀p∈L,p.2.st=1->1<=p.2.cl.cnt:=fun p a e=>by
 have b:=h.inr p a
 by_cases d:p.1.t= -1
 ·exact(h.raw p a d).2.1
 ·have:=h.tier p a (by have:=b.2.1;omega);omega
end
def zfP(QL:List (Tok×Lse))(t:Tok):Int:=match zS QL t with|some g=>g.til|none=>0
def tokL(ep:Int)(k:Nat):List Tok:=(List.range k).map (fun j:Nat=>(⟨ep,(j:Int)+1⟩:Tok))
def zkL(ep:Int)(QL:List (Tok×Lse))(k:Nat):List Int:=(List.range k).map (fun j:Nat=>zfP QL ⟨ep,(j:Int)+1⟩)
def ziY(s:Sg):Nat:=((s.t+1)*400004+s.se*100001+s.wn).toNat
def Ji(s:Sg):Prop:=0<=s.se/\s.se<4
theorem zfo{c:Cf}(a:c.ok){s:Sg}(h:inR c s)(b:Ji s):ziY s<2000020:=by
 obtain⟨_,d,e,f,g⟩:=h
 obtain⟨i,j⟩:=b
 have:=a.n4
 unfold ziY;omega
theorem zbS{c:Cf}{s a:Sg}(h:inR c s)(j:Ji s)(i:inR c a)(b:Ji a)(e:ziY s=ziY a):s=a:=by
 obtain⟨_,x,y,z,A⟩:=h
 obtain⟨B,C⟩:=j
 obtain⟨_,n,o,p,q⟩:=i
 obtain⟨u,w⟩:=b
 obtain⟨t,r,v⟩:=s
 obtain⟨l,k,m⟩:=a
 unfold ziY at e
 dsimp only at*
 have d:t=l:=by omega
 have f:r=k:=by omega
 have g:v=m:=by omega
 rw[d,f,g]
structure SOk(c:Cf)(ep:Int)(m:MS)(nn:Nat):Prop where
 ok:MOk c ep m
 gin:∀k∈zo m.Gl,inR c k/\Ji k
 lin:∀k∈zl m.L,Ji k
 held:Xa m.L<=nn
section
variable {c:Cf} {ep:Int} {m:MS} {nn:Nat}
theorem SOk.gl(h:SOk c ep m nn)(n:c.ok):m.Gl.length<=2000020:=by
 have k:=ZF ((zo m.Gl).map ziY) (List.range 2000020) ?_ ?_
 ·simpa[zo]using k
 ·have hn:=h.ok.seg.ng
  have d:=h.gin
  generalize zo m.Gl=l at*
  rw[List.nodup_iff_pairwise_ne,List.pairwise_map]
  refine(List.nodup_iff_pairwise_ne.1 hn).imp_of_mem ?_
  intro a b g i f e
  exact f (zbS (d a g).1 (d a g).2 (d b i).1 (d b i).2 e)
 ·intro x o
  obtain⟨s,j,rfl⟩:=List.mem_map.1 o
  exact List.mem_range.2 (zfo n (h.gin s j).1 (h.gin s j).2)
theorem MOk.unt_pos(h:MOk c ep m){t:Tok}{g:Lse}(a:zS m.QL t=I g):zfP m.QL t=g.til/\0<g.til:=by
 have b:=(h.leas _ (zA a)).til
 have d:=h.now
 refine⟨by unfold zfP;rw[a],by dsimp only at b;omega⟩
theorem MOk.unt_none{t:Tok}(a:zS m.QL t=none):zfP m.QL t=0:=by unfold zfP;rw[a]
def zkx(n:Int)(u:Int):Int:=if u<=n then 0 else u
theorem SOk.tick(x:c.ok)(y:c.fits)(h:SOk c ep m nn){n:Int}(hn:1<=n)(i:m.now+n<=100000){e d:List (Jk×Tsk)}{a:List (Tok×Lse)}(r:JF (m.now+n) m.TL m.QL e a)(u:∀p∈a,m.now+n<p.2.til)
  (z:qD c {m with now:=m.now+n,TL:=e,QL:=a} d):
  SOk c ep {m with now:=m.now+n,TL:=d,QL:=a} nn/\∀k,zkL ep a k=(zkL ep m.QL k).map (zkx (m.now+n)):=by
 have v:=h.ok.exps (n':=m.now+n) ⟨by omega,i⟩ r u
 obtain⟨w,_,_⟩:=MOk.post x y v z
 refine⟨⟨w,h.gin,h.lin,h.held⟩,fun k=>?_⟩
 obtain⟨_,_,i3,_,i5,B,_,_⟩:=zdZ (ep:=ep) (c:=c) (L:=m.L) (num:=m.num) (show m.now<=m.now+n by omega) h.ok.tk h.ok.nt h.ok.leas h.ok.nq h.ok.jobs r
 have A:∀t,zfP a t=zkx (m.now+n) (zfP m.QL t):=fun t=>by
  have o:=h.ok.now
  unfold zkx
  cases f:zS m.QL t with
  |none=>
   have:zS a t=none:=by
    cases b:zS a t with
    |none=>rfl
    |some g=>exact absurd (xu h.ok.nq (i5 _ (zA b))) (by rw[f];simp)
   rw[MOk.unt_none f,show zfP a t=0 from by unfold zfP;rw[this]];split<;>rfl
  |some g=>
   rw[(h.ok.unt_pos f).1]
   by_cases s:g.til<=m.now+n
   ·rw[if_pos s]
    have:zS a t=none:=by
     cases b:zS a t with
     |none=>rfl
     |some C=>
      have l:=xu h.ok.nq (i5 _ (zA b))
      rw[f]at l;injection l with l
      have q:=u _ (zA b)
      rw[<-l]at q
      dsimp only at q;omega
    unfold zfP;rw[this]
   ·rw[if_neg s]
    have:=xu i3 (B _ (zA f) (by dsimp only;omega))
    unfold zfP;rw[this]
 unfold zkL
 rw[List.map_map]
 exact List.map_congr_left (fun j _=>A _)
theorem SOk.take(b:c.ok)(h:SOk c ep m nn){p:Jk×Tsk}(e:p∈m.TL)(f:p.2.rest<=m.now)(d:QI m.QL p.2.key=false)(slot:Int):
  SOk c ep {m with num:=m.num+1,QL:=qI m.QL ⟨ep,m.num+1⟩ ⟨p.2.kd,p.2.s,slot,m.now+c.le⟩} nn:=by
 have a:=(h.ok.picked b (k:=p.1) (x:=p.2) (xu h.ok.nt e) f d slot).1
 exact⟨a,h.gin,h.lin,h.held⟩
theorem SOk.fail(h:SOk c ep m nn){t:Tok}{g:Lse}{x:Tsk}(a:zS m.QL t=I g)(b:zS m.TL g.job=I x):
  SOk c ep {m with TL:=qI m.TL g.job (x.failed m.now),QL:=xn m.QL t} nn:=⟨h.ok.failed a b,h.gin,h.lin,h.held⟩
theorem SOk.job(h:SOk c ep m nn)(q:c.ok){t:Tok}{g:Lse}(l:zS m.QL t=I g):∃x,zS m.TL g.job=I x/\g.job.wf/\inR c x.s/\(x.rl=true->∃k:Nat,x.s.t=k)/\0<=x.tc/\x.tc<=1000000:=by
 obtain⟨x,i,r⟩:=(h.ok.leas _ (zA l)).job
 have f:=zA i
 have b:=h.ok.tk _ f
 have a:=h.ok.mem_inR b.mem
 refine⟨x,i,h.ok.wfk _ f,a,fun e=>?_,?_⟩
 ·have d:=b.roll e
  have n:=zN b.mem
  refine⟨x.s.t.toNat,?_⟩
  have o: -1<=x.s.t:=a.2.1
  have p:x.s.t≠ -1:=fun j=>by
   have:=(h.ok.seg.raw _ n j).1
   dsimp only at this d;omega
  omega
 ·have d:=b.tc
  have:=h.ok.now
  dsimp only at d;omega
theorem VL(h:yA c m.now m.L m.Gl){s:Sg}(b:s∈zl m.L):0<=yn (stL m.L s):=by
 have a:=zN b
 unfold yn
 split
 ·rename_i h1;have:=h.held1 _ a h1;dsimp only at this;omega
 ·exact Int.le_refl _
theorem SOk.roll(q:c.ok)(r:c.fits)(h:SOk c ep m nn){t:Tok}{g:Lse}{s:Sg}{si tc rest:Int}(u:zS m.QL t=I g)(w:zS m.TL g.job=I ⟨true,s,si,tc,rest⟩)(a:Cl){b:List (Jk×Tsk)}
  (v:qD c {m with L:=yL m.L s ⟨3,a⟩,Gl:=m.Gl,TL:=xn m.TL g.job,QL:=xn m.QL t} b):
  SOk c ep {m with L:=yL m.L s ⟨3,a⟩,Gl:=m.Gl,TL:=b,QL:=xn m.QL t} nn/\xy (yL m.L s ⟨3,a⟩) 2=xy m.L 2-1:=by
 obtain⟨j,f,l,n⟩:=h.ok.rolled u w rfl a
 dsimp only at j f l n
 have o:=(MOk.post q r j v).1
 refine⟨⟨o,h.gin,fun k i=>?_,?_⟩,?_⟩
 ·rcases xw.1 i with i|rfl
  ·exact h.lin k i
  ·exact h.lin _ n
 ·have:=f yn
  have x:=h.held
  have d:yn (stL m.L s)=0:=by unfold yn;rw[if_neg (by omega)]
  have e:yn ⟨3,a⟩=0:=by simp[yn]
  rw[d,e]at this
  unfold Xa at*
  show xI ((yL m.L s ⟨3,a⟩).map (fun p=>yn p.2))<=_
  omega
 ·have:=f (Yu 2)
  have d:Yu 2 (stL m.L s)=1:=by unfold Yu;rw[if_pos l]
  have e:Yu 2 ⟨3,a⟩=0:=by simp[Yu]
  rw[d,e]at this
  unfold xy
  omega
theorem SOk.reclaim(o:c.ok)(q:c.fits)(h:SOk c ep m nn){t:Tok}{g:Lse}{s:Sg}{si tc rest:Int}(r:zS m.QL t=I g)(u:zS m.TL g.job=I ⟨false,s,si,tc,rest⟩){a:List (Jk×Tsk)}
  (e:qD c {m with L:=xn m.L s,Gl:=qI m.Gl s (),TL:=xn m.TL g.job,QL:=xn m.QL t} a):
  SOk c ep {m with L:=xn m.L s,Gl:=qI m.Gl s (),TL:=a,QL:=xn m.QL t} nn/\(qI m.Gl s ()).length=m.Gl.length+1:=by
 obtain⟨f,i,l,d,j⟩:=h.ok.reclaimed r u rfl
 dsimp only at f i l d j
 have n:=(MOk.post o q f e).1
 refine⟨⟨n,fun k b=>?_,fun k b=>?_,?_⟩,j⟩
 ·rcases xg.1 b with b|rfl
  ·exact h.gin k b
  ·exact⟨h.ok.mem_inR d,h.lin _ d⟩
 ·obtain⟨p,e,rfl⟩:=List.mem_map.1 (show k∈(xn m.L s).map (·.1)from b)
  exact h.lin _ (List.mem_map.2 ⟨p,(zL.1 e).1,rfl⟩)
 ·have:=i yn
  have v:=h.held
  have w:=VL h.ok.seg d
  unfold Xa at*
  show xI ((xn m.L s).map (fun p=>yn p.2))<=_
  omega
theorem zfY{x:Nm}(b:0<=x.se/\x.se<4){L:LV}(h:∀k∈zl L,Ji k):∀k∈zl (yH c L x),Ji k:=fun k d=>by
 obtain⟨p,a,rfl⟩:=List.mem_map.1 (show k∈(yH c L x).map (·.1)from d)
 rcases vR x c.n _ a with a|⟨j,e,rfl,f⟩
 ·rcases xS a with rfl|⟨a,_⟩
  ·exact b
  ·exact h _ (List.mem_map.2 ⟨p,a,rfl⟩)
 ·exact b
theorem SOk.ingest(a:c.ok)(d:c.fits)(h:SOk c ep m nn){x:Nm}(b:0<=x.se/\x.se<4)(f:0<=x.tm/\x.tm<=m.now)(e:m.now-c.la<=x.tm)(hv: -2147483648<=x.val/\x.val<=2147483647)(j:zU m.L+(1+2*qK c m.L x c.n)<=c.qu):
  SOk c ep {m with L:=yH c m.L x} (nn+1)/\zU (yH c m.L x)=zU m.L+1+2*qK c m.L x c.n:=by
 refine⟨⟨h.ok.added a d b f e hv (by omega),h.gin,zfY b h.lin,?_⟩,Jz h.ok.seg a x⟩
 have g:=zee h.ok.seg a x
 have i:=h.held
 show Xa (yH c m.L x)<=((nn+1:Nat):Int)
 omega
theorem SOk.new(a:c.ok):SOk c ep ⟨0,[],[],0,[],[]⟩ 0:=by
 have b:=a.qu
 refine⟨⟨by dsimp only;omega,⟨by simp,by simp[zl],by simp,by simp,by simp,by simp[zo],by simp,by simp[zo],by simp,?_⟩,by simp,by simp[zo],by simp,by simp[zo],by simp,by dsimp only;omega⟩,by simp[zo],by simp[zl],?_⟩
 ·show zU []<=c.qu
  simp[zU,xI];omega
 ·simp[Xa,xI]
end
inductive Yp (c:Cf) (ep:Int):MS->List Nm->MS->List Nm->Prop
 |same (m:MS) (ns:List Nm):Yp c ep m ns m ns
 |added (m:MS) (ns:List Nm) (x:Nm) (hs:0<=x.se/\x.se<4) (hx:0<=x.tm/\x.tm<=m.now) (hl:m.now-c.la<=x.tm) (hv: -2147483648<=x.val/\x.val<=2147483647) (hu:zU m.L+(1+2*qK c m.L x c.n)<=c.qu):Yp c ep m ns {m with L:=yH c m.L x} (ns++[x])
 |ticked (m:MS) (ns:List Nm) (n:Int) (TL1 TL':List (Jk×Tsk)) (QL1:List (Tok×Lse)) (hn:1<=n) (hnow:m.now+n<=100000) (he:JF (m.now+n) m.TL m.QL TL1 QL1) (hq:∀p∈QL1,m.now+n<p.2.til) (hp:qD c {m with now:=m.now+n,TL:=TL1,QL:=QL1} TL'):Yp c ep m ns {m with now:=m.now+n,TL:=TL',QL:=QL1} ns
 |taken (m:MS) (ns:List Nm) (p:Jk×Tsk) (slot:Int) (hp:p∈m.TL) (hf:ziq m.QL m.now p.2=true):Yp c ep m ns {m with num:=m.num+1,QL:=qI m.QL ⟨ep,m.num+1⟩ ⟨p.2.kd,p.2.s,slot,m.now+c.le⟩} ns
 |failed (m:MS) (ns:List Nm) (t:Tok) (g:Lse) (x:Tsk) (hg:zS m.QL t=I g) (hx:zS m.TL g.job=I x):Yp c ep m ns {m with TL:=qI m.TL g.job (x.failed m.now),QL:=xn m.QL t} ns
 |rolled (m:MS) (ns:List Nm) (t:Tok) (g:Lse) (s:Sg) (si tc rest:Int) (k:Nat) (TL':List (Jk×Tsk)) (hg:zS m.QL t=I g) (hx:zS m.TL g.job=I ⟨true,s,si,tc,rest⟩) (hk:s.t=k) (hp:qD c {m with L:=yL m.L s ⟨3,qc (vo c m.L s.se s.wn k)⟩,Gl:=m.Gl,TL:=xn m.TL g.job,QL:=xn m.QL t} TL'):Yp c ep m ns {m with L:=yL m.L s ⟨3,qc (vo c m.L s.se s.wn k)⟩,Gl:=m.Gl,TL:=TL',QL:=xn m.QL t} ns
 |reclaimed (m:MS) (ns:List Nm) (t:Tok) (g:Lse) (s:Sg) (si tc rest:Int) (TL':List (Jk×Tsk)) (hg:zS m.QL t=I g) (hx:zS m.TL g.job=I ⟨false,s,si,tc,rest⟩) (hp:qD c {m with L:=xn m.L s,Gl:=qI m.Gl s (),TL:=xn m.TL g.job,QL:=xn m.QL t} TL'):Yp c ep m ns {m with L:=xn m.L s,Gl:=qI m.Gl s (),TL:=TL',QL:=xn m.QL t} ns
theorem zcs{QL:List (Tok×Lse)}{now:Int}{x:Tsk}(h:ziq QL now x=true):x.rest<=now/\QI QL x.key=false:=by
 unfold ziq at h
 simp only[Bool.and_eq_true,Bool.not_eq_true',decide_eq_true_eq]at h
 exact h
theorem Yp.ok{c:Cf}{ep:Int}{m m':MS}{ns l:List Nm}(e:c.ok)(o:c.fits)(h:Yp c ep m ns m' l)(b:SOk c ep m ns.length):SOk c ep m' l.length:=by
 cases h with
 |same=>exact b
 |added x q r y z A=>have:=(b.ingest e o q r y z A).1;simpa using this
 |ticked n w d v hn i B C a=>exact(b.tick e o hn i B C a).1
 |taken p slot a u=>obtain⟨q,r⟩:=zcs u;exact b.take e a q r slot
 |failed t g x f j=>exact b.fail f j
 |rolled t g s si tc rest k d f j D a=>exact(b.roll e o f j _ a).1
 |reclaimed t g s si tc rest d f j a=>exact(b.reclaim e o f j a).1
theorem Yp.nu{c:Cf}{ep:Int}{m m':MS}{ns a:List Nm}(h:Yp c ep m ns m' a):a.length<=ns.length+1:=by
 cases h<;>simp
end Go.Proofs.YtndhpgciopcncaaGreatDoor
