import Derived.Test.YtpbimdkclnekeaaGreatVInv2
import Derived.Test.YtpbimdkclnekeaaGreatVRefQ
open Go.Value renaming int → I
open Go.IntKind renaming i64 → J
open Option renaming none → K
open Option renaming some → O
open Go renaming World → E
open Go.RowKit renaming Below → Q
open Go renaming Value → S
open Nat renaming lt_of_lt_of_le → A
open Go.IntKind (i32)
set_option linter.unusedVariables false
set_option maxRecDepth 8000
set_option maxHeartbeats 20000000
open Go.Proofs.Tryz
namespace Go.Proofs.YtpbimdkclnekeaaGreat
open Go.RowKit Go.Maps Go.Shelf
section
variable {c:Cf} {ep:Int} {m:MS} {r:RM}
theorem ZM.more(h:ZM c m){d:List (Jk×Tsk)}{Q':List (Tok×Lse)}{n':Int}(e:∀k,k∈zv m.TL->k∈zv d):ZM c {m with num:=n',TL:=d,QL:=Q'}:=by
 obtain⟨f,j,g,i⟩:=h
 exact⟨f,j,fun s b a=>e _ (g s b a),fun s b a=>e _ (i s b a)⟩
theorem xR.pick_slot(h:xR c ep m r){slot:Int}(a:slot<0\/c.s<=slot):r.pick slot=(r,ju,6):=by
 unfold RM.pick
 rw[if_pos (by rw[h.tie.hc];exact a)]
theorem xR.pick_busy(h:xR c ep m r){slot:Int}(a:0<=slot/\slot<c.s)(b:m.QL.any (fun p=>p.2.slot==slot)=true):r.pick slot=(r,ju,6):=by
 unfold RM.pick
 rw[if_neg (by rw[h.tie.hc];omega),if_pos (by rw[QM h.sok.ok h.tsk slot a.1];exact b)]
theorem xR.pick_idle(h:xR c ep m r){slot:Int}(a:0<=slot/\slot<c.s)(b:m.QL.any (fun p=>p.2.slot==slot)=false)(d:∀p∈m.TL,kw m.QL m.now p.2=false):r.pick slot=(r,ju,7):=by
 unfold RM.pick
 rw[if_neg (by rw[h.tie.hc];omega),if_neg (by rw[QM h.sok.ok h.tsk slot a.1,b];decide),Go.Proofs.YtpbimdkclnekeaaGreat.Yr h.tsk h.tie.now h.slot d]
theorem Q5{QL:List (Tok×Lse)}{t:Tok}{v:Lse}(a:t∉zv QL)(q:Tok×Lse):q∈qt QL t v↔q=(t,v)\/q∈QL:=by
 unfold qt
 rw[if_neg a,List.mem_append,List.mem_singleton]
 exact or_comm
theorem xR.pick(h:xR c ep m r){slot:Int}(f:0<=slot/\slot<c.s)(x:m.QL.any (fun p=>p.2.slot==slot)=false){p:Jk×Tsk}(o:p∈m.TL)(i:kw m.QL m.now p.2=true)(z:QI c m.now (yx (xg m.L) c.qu) m.QL m.TL p.2):
  (r.pick slot).2.2=0/\(r.pick slot).2.1=⟨p.2.kd,p.2.s,p.2.si,p.2.tc,p.2.rest,ep,m.num+1,slot,m.now+c.le⟩/\xR c ep {m with num:=m.num+1,QL:=qt m.QL ⟨ep,m.num+1⟩ ⟨p.2.kd,p.2.s,slot,m.now+c.le⟩} (r.pick slot).1:=by
 obtain⟨j,y,v⟩:=zfR h.sok.ok h.tie.hc h.tsk h.tie.now h.tight h.slot o i z
 have w:r.pick slot=({r with picks:=r.picks+1,tg:=r.tg.modify j (Tk.leased ep (m.num+1) slot (m.now+c.le))},Tk.leased ep (m.num+1) slot (m.now+c.le) (yO m.QL p.2),0):=by
  unfold RM.pick
  rw[if_neg (by rw[h.tie.hc];omega),if_neg (by rw[QM h.sok.ok h.tsk slot f.1,x];decide),y]
  simp only[v,Option.getD_some,h.picks,h.epo,h.tie.now,h.tie.hc]
 rw[w]
 obtain⟨B,g⟩:=Kj i
 have u:VY c ep m r.nu {m with num:=m.num+1,QL:=qt m.QL ⟨ep,m.num+1⟩ ⟨p.2.kd,p.2.s,slot,m.now+c.le⟩} r.nu:=.taken m r.nu p slot o i
 have d:=u.ok h.ok h.fits h.sok
 have b:(⟨ep,m.num+1⟩:Tok)∉zv m.QL:=fun l=>by
  obtain⟨q,a,e⟩:=List.mem_map.1 (show(⟨ep,m.num+1⟩:Tok)∈m.QL.map (·.1)from l)
  have:=(h.sok.ok.leas q a).num.2
  rw[e]at this
  dsimp only at this;omega
 have n:∀q∈m.QL,q.2.job≠p.2.key:=fun q a e=>by
  unfold kq at g
  rw[List.any_eq_false]at g
  exact g q a (decide_eq_true (show(⟨q.2.kd,q.2.s⟩:Jk)=p.2.key from e))
 refine⟨rfl,rfl,⟨h.ok,h.fits,d,⟨h.tie.hc,h.tie.now,h.tie.gone,h.tie.pub,h.tie.inv.act h.ok h.fits h.sok (by have:=h.len;omega) u⟩,?_,fun q a=>?_,?_,h.epo,h.ghas,h.ng,h.np,h.full,h.comp.more (fun k l=>l)⟩⟩
 ·exact xx.taken (t:=⟨ep,m.num+1⟩) h.sok.ok h.tsk d.ok.jobs o n (fun q=>Q5 b q) v
 ·rcases(Q5 b q).1 a with rfl|a
  ·exact f.1
  ·exact h.slot q a
 ·show r.picks+1=m.num+1
  rw[h.picks]
theorem xR.fail_no(h:xR c ep m r){e n:Int}(a:zV m.QL ⟨e,n⟩=K):r.fail e n=(r,8):=by
 unfold RM.fail
 rw[Ke h.sok.ok h.tsk h.slot e n a]
theorem xR.commit_no(h:xR c ep m r){e n:Int}(a:zV m.QL ⟨e,n⟩=K):r.commit e n=(r,8):=by
 unfold RM.commit
 rw[Ke h.sok.ok h.tsk h.slot e n a]
theorem xR.fail(h:xR c ep m r){e n:Int}{g:Lse}(b:zV m.QL ⟨e,n⟩=O g){x:Tsk}(d:zV m.TL g.job=O x):(r.fail e n).2=0/\xR c ep {m with TL:=qt m.TL g.job (x.failed m.now),QL:=xt m.QL ⟨e,n⟩} (r.fail e n).1:=by
 obtain⟨f,i,j⟩:=zeO h.sok.ok h.tsk h.tie.now h.slot e n b d
 refine⟨f,?_⟩
 have a:VY c ep m r.nu {m with TL:=qt m.TL g.job (x.failed m.now),QL:=xt m.QL ⟨e,n⟩} r.nu:=.failed m r.nu ⟨e,n⟩ g x b d
 rw[i]
 refine⟨h.ok,h.fits,a.ok h.ok h.fits h.sok,⟨h.tie.hc,h.tie.now,h.tie.gone,h.tie.pub,h.tie.inv.act h.ok h.fits h.sok (by have:=h.len;omega) a⟩,j,fun q o=>h.slot q (zZ.1 o).1,h.picks,h.epo,h.ghas,h.ng,h.np,h.full,h.comp.more (fun k l=>xp.2 (.inl l))⟩
end
theorem zbP{α β:Type}{f g:β->α->β}:∀(l:List α) (b:β),(∀b a,a∈l->f b a=g b a)->l.foldl f b=l.foldl g b
 |[],b,_=>rfl
 |a::l,b,h=>by
  rw[List.foldl_cons,List.foldl_cons,h b a (by simp)]
  exact zbP l _ (fun b x c=>h b x (by simp[c]))
theorem jo(kind:Int)(s:Sg)(P:Tk->Bool):∀(l:List Tk) (t:Tk),(∀x∈l,P x=false->¬(x.kind=kind/\x.s=s))->(l.filter P).foldl (qj kind s) t=l.foldl (qj kind s) t
 |[],t,_=>rfl
 |x::l,t,h=>by
  have a:=fun t=>jo kind s P l t (fun y c=>h y (by simp[c]))
  rw[List.filter_cons,List.foldl_cons]
  cases b:P x with
  |true=>rw[if_pos rfl,List.foldl_cons];exact a _
  |false=>
   rw[if_neg (by decide),a]
   have e:qj kind s t x=t:=by unfold qj;rw[if_neg (h x (by simp) b)]
   rw[e]
theorem Qg(r:RM)(kd:Int)(s:Sg)(f:kj r kd s (zS r.c r.nu)=false):{r with tg:=r.tg.filter (fun t=>!decide (t.kind=kd/\t.s=s))}.settled.tg=r.settled.tg:=by
 show xY {r with tg:=r.tg.filter (fun t=>!decide (t.kind=kd/\t.s=s))} (zS r.c r.nu) (zS r.c r.nu).length=xY r (zS r.c r.nu) (zS r.c r.nu).length
 unfold xY
 refine zbP _ _ (fun out a k=>?_)
 have d:∀(kind:Int) (o:List Tk),yJ {r with tg:=r.tg.filter (fun t=>!decide (t.kind=kd/\t.s=s))} (zS r.c r.nu) kind o a=yJ r (zS r.c r.nu) kind o a:=fun kind o=>by
  unfold yJ
  have g:kj {r with tg:=r.tg.filter (fun t=>!decide (t.kind=kd/\t.s=s))} kind a (zS r.c r.nu)=kj r kind a (zS r.c r.nu):=rfl
  rw[g]
  by_cases b:kj r kind a (zS r.c r.nu)=true
  ·rw[if_pos b,if_pos b]
   have h:qF {r with tg:=r.tg.filter (fun t=>!decide (t.kind=kd/\t.s=s))} kind a=qF r kind a:=by
    unfold qF
    refine jo kind a _ r.tg _ (fun x l e=>?_)
    simp only[Bool.not_eq_false',decide_eq_true_eq]at e
    rintro⟨i,j⟩
    rw[<-i,<-j,e.1,e.2,f]at b
    cases b
   rw[h]
  ·rw[if_neg b,if_neg b]
 rw[d,d]
section
variable {c:Cf} {ep:Int} {m:MS} {r:RM}
theorem xx.dropped{l:List Tk}(i:MOk c ep m)(h:xx m.TL m.QL l){t:Tok}{g:Lse}(w:zV m.QL t=O g){x:Tsk}(G:zV m.TL g.job=O x):xx (xt m.TL g.job) (xt m.QL t) (l.filter (fun k=>!decide (k.kind=x.kd/\k.s=x.s))):=by
 obtain⟨ts,v,F,rfl⟩:=h
 have f:g.job=x.key:=(i.tg _ (zK G)).key
 have B:=zK w
 have d:∀z:Tsk,(z.kd=x.kd/\z.s=x.s)↔z.key=x.key:=fun z=>by
  unfold Tsk.key
  constructor
  ·rintro⟨a,b⟩;rw[a,b]
  ·intro e;injection e with a b;exact⟨a,b⟩
 refine⟨ts.filter (fun z=>!decide (z.kd=x.kd/\z.s=x.s)),?_,F.filter _,?_⟩
 ·have e:(xt m.TL g.job).map (·.2)=(m.TL.map (·.2)).filter (fun z=>!decide (z.kd=x.kd/\z.s=x.s)):=by
   unfold xt
   rw[List.filter_map]
   refine congrArg (List.map _) (List.filter_congr (fun p D=>?_))
   have j:=(i.tg p D).key
   dsimp only[Function.comp]
   rw[f]
   by_cases e:p.1=x.key
   ·have r:p.2.kd=x.kd/\p.2.s=x.s:=(d p.2).2 (by rw[<-j];exact e)
    simp[e,r]
   ·have r:¬(p.2.kd=x.kd/\p.2.s=x.s):=fun h=>e (by rw[j];exact(d p.2).1 h)
    simp only[e,r,decide_false,Bool.not_false,ne_eq,not_false_eq_true,decide_true]
  rw[e]
  exact v.filter _
 ·rw[List.filter_map]
  have y:((fun k:Tk=>!decide (k.kind=x.kd/\k.s=x.s))∘yO m.QL)=fun z=>!decide (z.kd=x.kd/\z.s=x.s):=rfl
  rw[y]
  refine List.map_congr_left (fun z H=>?_)
  have u:z.key≠x.key:=fun e=>by
   have:=(List.mem_filter.1 H).2
   rw[decide_eq_true ((d z).2 e)]at this
   cases this
  refine vT (XH i.jobs (jX i.jobs t) (fun q C=>?_))
  rw[zZ]
  constructor
  ·refine fun o=>⟨o,fun e=>u ?_⟩
   have n:zV m.QL q.1=O q.2:=xu i.nq o
   rw[e,w]at n
   injection n with n
   rw[<-C,<-n,f]
  ·exact fun o=>o.1
theorem xR.roll(h:xR c ep m r){e n:Int}{g:Lse}{s:Sg}{si tc rest:Int}{k:Nat}(y:zV m.QL ⟨e,n⟩=O g)(w:zV m.TL g.job=O ⟨true,s,si,tc,rest⟩)(P:s.t=k){f:List (Jk×Tsk)}
  (F:qU c {m with L:=yi m.L s ⟨3,xQ (qk c m.L s.se s.we k)⟩,Gl:=m.Gl,TL:=xt m.TL g.job,QL:=xt m.QL ⟨e,n⟩} f):
  (r.commit e n).2=0/\xR c ep {m with L:=yi m.L s ⟨3,xQ (qk c m.L s.se s.we k)⟩,Gl:=m.Gl,TL:=f,QL:=xt m.QL ⟨e,n⟩} (r.commit e n).1:=by
 obtain⟨j,U,V⟩:=XI h.sok.ok h.tsk h.slot e n y w
 have W:r.commit e n=({r with pub:=r.pub++[s]}.settled,0):=by
  unfold RM.commit
  rw[U]
  simp only[V,Option.getD_some]
  unfold RM.done
  rw[if_pos (show(yO m.QL ⟨true,s,si,tc,rest⟩).kind=1 from rfl)]
  rfl
 rw[W]
 refine⟨rfl,?_⟩
 have u:=h.sok.ok
 have R:=u.tg _ (zK w)
 have l:s∈zx m.L:=R.mem
 have G:(stL m.L s).st=2:=R.roll rfl
 have C:=(u.rolled y w rfl (xQ (qk c m.L s.se s.we k))).1
 have z:=h.tie.inv.rolled h.ok h.fits u (by have:=h.len;omega) w P (xt m.QL ⟨e,n⟩)
 have p:¬s∈r.pub:=fun Y=>by
  rcases h.inPub.1 Y with⟨v,hv,d⟩|⟨-,d⟩
  ·rw[vE u.seg.nl (zY l) hv]at G;omega
  ·exact u.seg.disj _ (zY l) d
 have o:∀i,je i (r.pub++[s])=true↔Pub (yi m.L s ⟨3,xQ (qk c m.L s.se s.we k)⟩) i\/(0<=i.t/\i∈zv m.Gl):=fun i=>by
  have:je i (r.pub++[s])=true↔i∈r.pub\/i=s:=by unfold je;simp
  rw[this,h.inPub]
  constructor
  ·rintro((⟨v,hv,d⟩|d)|rfl)
   ·by_cases e:i=s
    ·rw[e];exact .inl ⟨_,Vy,rfl⟩
    ·exact .inl ⟨v,Vz hv e,d⟩
   ·exact .inr d
   ·exact .inl ⟨_,Vy,rfl⟩
  ·rintro(⟨v,hv,d⟩|d)
   ·rcases qm hv with e|⟨hv,-⟩
    ·injection e with T Z;exact .inr T
    ·exact .inl (.inl ⟨v,hv,d⟩)
   ·exact .inl (.inr d)
 have H:zbA c {m with L:=yi m.L s ⟨3,xQ (qk c m.L s.se s.we k)⟩,Gl:=m.Gl,TL:=xt m.TL g.job,QL:=xt m.QL ⟨e,n⟩} {r with pub:=r.pub++[s],tg:=r.tg.filter (fun t=>!decide (t.kind=(1:Int)/\t.s=s))}:=⟨h.tie.hc,h.tie.now,h.tie.gone,o,z⟩
 have B:xx (xt m.TL g.job) (xt m.QL ⟨e,n⟩) (r.tg.filter (fun t=>!decide (t.kind=(1:Int)/\t.s=s))):=h.tsk.dropped u y w
 have x:=Z8 h.ok h.fits C H B F
 rw[show({r with pub:=r.pub++[s],tg:=r.tg.filter (fun t=>!decide (t.kind=(1:Int)/\t.s=s))}:RM).settled.tg=({r with pub:=r.pub++[s]}:RM).settled.tg from Qg {r with pub:=r.pub++[s]} 1 s (by
  unfold kj
  rw[if_pos rfl]
  unfold qE kz
  have:je s ({r with pub:=r.pub++[s]}:RM).pub=true:=vf (by simp)
  rw[this];simp)]at x
 have M:VY c ep m r.nu {m with L:=yi m.L s ⟨3,xQ (qk c m.L s.se s.we k)⟩,Gl:=m.Gl,TL:=f,QL:=xt m.QL ⟨e,n⟩} r.nu:=.rolled m r.nu ⟨e,n⟩ g s si tc rest k f y w P F
 refine⟨h.ok,h.fits,M.ok h.ok h.fits h.sok,⟨h.tie.hc,h.tie.now,h.tie.gone,o,h.tie.inv.act h.ok h.fits h.sok (by have:=h.len;omega) M⟩,x,fun q X=>h.slot q (zZ.1 X).1,h.picks,h.epo,h.ghas,h.ng,?_,h.full,ZM.of F⟩
 show(r.pub++[s]).Nodup
 rw[List.nodup_append]
 exact⟨h.np,by simp,fun a D b N e=>by simp at N;subst N;subst e;exact p D⟩
theorem xR.reclaim(h:xR c ep m r){e n:Int}{g:Lse}{s:Sg}{si tc rest:Int}(z:zV m.QL ⟨e,n⟩=O g)(w:zV m.TL g.job=O ⟨false,s,si,tc,rest⟩){k:List (Jk×Tsk)}
  (N:qU c {m with L:=xt m.L s,Gl:=qt m.Gl s (),TL:=xt m.TL g.job,QL:=xt m.QL ⟨e,n⟩} k):
  (r.commit e n).2=0/\xR c ep {m with L:=xt m.L s,Gl:=qt m.Gl s (),TL:=k,QL:=xt m.QL ⟨e,n⟩} (r.commit e n).1:=by
 obtain⟨j,W,X⟩:=XI h.sok.ok h.tsk h.slot e n z w
 have Y:r.commit e n=({r with gone:=r.gone++[s]}.settled,0):=by
  unfold RM.commit
  rw[W]
  simp only[X,Option.getD_some]
  unfold RM.done
  rw[if_neg (by show¬((2:Int)=1);decide)]
  rfl
 rw[Y]
 refine⟨rfl,?_⟩
 have o:=h.sok.ok
 have V:=o.tg _ (zK w)
 have f:s∈zx m.L:=V.mem
 have P:(stL m.L s).st≠2:=V.recl rfl
 have H:=(o.reclaimed z w rfl).1
 have D:=h.tie.inv.reclaimed h.ok h.fits o w (xt m.QL ⟨e,n⟩)
 have C:¬s∈r.gone:=fun hs=>o.seg.disj _ (zY f) (h.inGl.1 hs)
 have i:∀d,je d (r.gone++[s])=true↔d∈zv (qt m.Gl s ()):=fun d=>by
  have:je d (r.gone++[s])=true↔d∈r.gone\/d=s:=by unfold je;simp
  rw[this,h.inGl,xp]
 have p:∀d,je d r.pub=true↔Pub (xt m.L s) d\/(0<=d.t/\d∈zv (qt m.Gl s ())):=fun d=>by
  rw[h.tie.pub,xp]
  constructor
  ·rintro(⟨v,hv,l⟩|⟨l,x⟩)
   ·by_cases e:d=s
    ·refine .inr ⟨?_,.inr e⟩
     have F:=o.seg.inr _ hv
     by_cases ht:d.t= -1
     ·have:=(o.seg.raw _ hv ht).1
      dsimp only at this;omega
     ·have:=F.2.1
      dsimp only at this;omega
    ·exact .inl ⟨v,zZ.2 ⟨hv,e⟩,l⟩
   ·exact .inr ⟨l,.inl x⟩
  ·rintro(⟨v,hv,l⟩|⟨l,x|x⟩)
   ·exact .inl ⟨v,(zZ.1 hv).1,l⟩
   ·exact .inr ⟨l,x⟩
   ·left
    rw[x]at l ⊢
    rcases o.seg.tier _ (zY f) l with B|B
    ·exact absurd B P
    ·exact⟨_,zY f,B⟩
 have R:zbA c {m with L:=xt m.L s,Gl:=qt m.Gl s (),TL:=xt m.TL g.job,QL:=xt m.QL ⟨e,n⟩} {r with gone:=r.gone++[s],tg:=r.tg.filter (fun t=>!decide (t.kind=(2:Int)/\t.s=s))}:=⟨h.tie.hc,h.tie.now,i,p,D⟩
 have G:xx (xt m.TL g.job) (xt m.QL ⟨e,n⟩) (r.tg.filter (fun t=>!decide (t.kind=(2:Int)/\t.s=s))):=h.tsk.dropped o z w
 have y:=Z8 h.ok h.fits H R G N
 rw[show({r with gone:=r.gone++[s],tg:=r.tg.filter (fun t=>!decide (t.kind=(2:Int)/\t.s=s))}:RM).settled.tg=({r with gone:=r.gone++[s]}:RM).settled.tg from Qg {r with gone:=r.gone++[s]} 2 s (by
  unfold kj
  rw[if_neg (by decide)]
  unfold qX qM
  have:je s ({r with gone:=r.gone++[s]}:RM).gone=true:=vf (by simp)
  rw[this];simp)]at y
 have T:VY c ep m r.nu {m with L:=xt m.L s,Gl:=qt m.Gl s (),TL:=k,QL:=xt m.QL ⟨e,n⟩} r.nu:=.reclaimed m r.nu ⟨e,n⟩ g s si tc rest k z w N
 refine⟨h.ok,h.fits,T.ok h.ok h.fits h.sok,⟨h.tie.hc,h.tie.now,i,p,h.tie.inv.act h.ok h.fits h.sok (by have:=h.len;omega) T⟩,y,fun q Z=>h.slot q (zZ.1 Z).1,h.picks,h.epo,fun d u=>?_,?_,h.np,h.full,ZM.of N⟩
 ·rcases xp.1 u with u|rfl
  ·exact h.ghas d u
  ·exact h.tie.inv.has _ f
 ·show(r.gone++[s]).Nodup
  rw[List.nodup_append]
  exact⟨h.ng,by simp,fun a M b U e=>by simp at U;subst U;subst e;exact C M⟩
theorem xR.new(a:c.ok)(b:c.fits):xR c ep ⟨0,[],[],0,[],[]⟩ ⟨c,0,[],[],[],[],ep,0⟩:=by
 refine⟨a,b,SOk.new a,⟨rfl,rfl,fun s=>by simp[je,zv],fun s=>by simp[je,zv,Pub],ZN.start c 0⟩,⟨[],by simp,by simp,rfl⟩,by simp,rfl,rfl,by simp[zv],by simp,by simp,fun T=>by simp[yB],⟨[],fun x=>by simp[zv,zx],by simp[zx],by simp[zx]⟩⟩
end
theorem zgO{w:E}{b d:Nat}{i:Ids}{c:Cf}{ct y z:S}{ep s:Int}{m:MS}(h:zy w i c ep m)(F:c.ok)(C:0<=xg m.L/\xg m.L<=1000)(f:m.L.length<=100000)(r:Cf)(u:w.1[b]?=O (zw i.x d r ct y z s)):
  Calls prog 51 #[.pointer (O ⟨b,0,K⟩),.pointer (O ⟨i.x,0,K⟩)] w fun e w'=>e=.returned (.bool (decide (s<ep)))/\w'.1[b]?=O (zw i.x d r ct y z ep)/\zk (fun k=>k=b) w w':=by
 have q:=ze (Ku h F C f)
 generalize xg m.L=U at*
 generalize xU m.L 1=A1 at*
 generalize xU m.L 2=A2 at*
 generalize xU m.L 3=A3 at*
 generalize m.Gl.length=A4 at*
 generalize yQ (yx U c.qu)=T at*
 generalize i.x=x at*
 have v:=zd u
 have D:=ze u
 clear h u C f
 go_enter func51,ntmps51
 go_wp2_with fail
 refine(ud q).mono ?_
 rintro e n ⟨rfl,g⟩
 have a:=(g.block b v).trans (ud D)
 have G:n.cell? ⟨b,12,K⟩=O (I J s):=by unfold zw at a;rw[zN a];rfl
 have H:∀j,n.frozen? ⟨b,j,K⟩=false:=fun j=>by unfold zw at a;exact zD a j
 have B:=zd a
 have p:=ze a
 have o:=ze g
 clear a g
 go_wp2_with fail
 go_region
 go_wp2_with fail
 go_ret
 have t:zk (fun k=>k=b) w n:=zk.of_below (ud o)
 have l:(n.setCell ⟨b,12,K⟩ (I J ep)).1[b]?=O (zw x d r ct y z ep):=by
  have:=ud p
  unfold zw at this
  exact xm (i:=12) this _
 exact⟨rfl,(Below.heap_alloc _ _ _ (zd l)).trans l,((zn t rfl).alloc _).drew⟩
theorem jN(th:List Tok)(o:Ops)(y: -9223372036854775808<=o.a/\o.a<=9223372036854775807)(D:(⟨o.te,o.tn⟩:Tok).wf)(B:∀t∈th,t.wf)(M:th.length<=1099511627776):
  ∃t:Tok,t.wf/\∀(w:E) (q x d:Nat) (m:Cf) (ct u r:S) (s:Int),w.1[q]?=O (zw x d m ct u r s)->w.ownsRow 0 49 2 r th.length (th.flatMap ziM)->
   Calls prog 102 #[.pointer (O ⟨q,0,K⟩),.agg #[I J o.kd,I J o.on,I J o.a,I J o.b,I J o.c,I i32 o.v,I J o.te,I J o.tn,I J o.fs,I J o.fe,I J o.fd,I J o.fw,I J o.fk,I J o.fq,.slice o.fa o.fn o.fc]] w fun e w'=>e=.returned (.agg #[I J t.ep,I J t.num])/\Q w.1.size w w':=by
 by_cases F:o.b=0
 ·by_cases C:th=[]
  ·subst C
   refine⟨⟨o.te,o.tn⟩,D,fun w q x d m ct u r s n h=>?_⟩
   obtain⟨a,cap,rfl⟩:=zq h
   exact zec m n o
  ·have p:0<th.length:=List.length_pos_iff.2 C
   obtain⟨i,N,z⟩:=zfQ o.a th.length y p
   have G:th.length-1-i<th.length:=by omega
   have l:th[th.length-1-i]?=O th[th.length-1-i]:=List.getElem?_eq_getElem G
   generalize L:th.length-1-i=j at*
   generalize th[j]=t at*
   refine⟨t,B t (List.mem_of_getElem? l),fun w q x d m ct u r s n h=>?_⟩
   obtain⟨g,cap,rfl,-,H⟩:=h.form (by omega)
   refine zed m n o F H (i:=i) (j:=j) (by omega) G M z ?_ ?_
   ·rw[h.cellAt (j*2) (by omega)]
    exact ql (f:=ziM) (k:=2) (fun _=>rfl) th j t 0 l (by omega)
   ·rw[h.cellAt (j*2+1) (by omega)]
    exact ql (f:=ziM) (k:=2) (fun _=>rfl) th j t 1 l (by omega)
 ·exact⟨⟨o.te,o.tn⟩,D,fun w q x d m ct u r s n h=>zgS m n o F⟩
theorem JF{w:E}{base:Nat}{e:TypeId}{size:Nat}{v:S}{n:Nat}{xs:List S}(h:w.ownsRow base e size v n xs):∀k,v.ownBlock=O k->base<=k:=fun k a=>by
 rcases h.2 with⟨rfl,_⟩|⟨g,cap,b,rfl,c,_⟩
 ·simp[Value.ownBlock]at a
 ·simp[Value.ownBlock]at a;subst a;exact c
def qi(B:Nat)(X:E)(q:Nat)(m':RM)(tv nv pv gv kv:S)(V:E):Prop:=∃d b a c,zJ B V q m' tv d b a c/\(∀k,b.ownBlock=O k->¬a.ownBlock=O k)/\zk (vP q tv nv pv gv kv) X V/\∀k,vP q tv d b a c k->vP q tv nv pv gv kv k\/X.1.size<=k
theorem qi.kept{B:Nat}{X:E}{q:Nat}{m':RM}{tv nv pv gv kv:S}{V:E}(h:qi B X q m' tv nv pv gv kv V):zk (vP q tv nv pv gv kv) X V:=by
 obtain⟨_,_,_,_,_,_,h,_⟩:=h
 exact h
theorem Qd{B:Nat}{w:E}{q:Nat}{m:RM}{tv nv pv gv kv:S}(h:zJ B w q m tv nv pv gv kv):∀k,vP q tv nv pv gv kv k->B<=k/\k<w.1.size:=fun k a=>by
 rcases a with rfl|a|a|a|a|a
 ·exact⟨h.base,h.lt⟩
 ·exact⟨JF h.trow k a,vw h.trow k a⟩
 ·exact⟨JF h.nrow k a,vw h.nrow k a⟩
 ·exact⟨JF h.prow k a,vw h.prow k a⟩
 ·exact⟨JF h.grow k a,vw h.grow k a⟩
 ·exact⟨JF h.krow k a,vw h.krow k a⟩
theorem yH{B N:Nat}{w X V Z:E}{q:Nat}{m':RM}{tv nv pv gv kv:S}(v:∀k,vP q tv nv pv gv kv k->B<=k/\k<w.1.size)(c:Q w.1.size w X)(y:X.1.size=w.1.size+N)(u:qi B X q m' tv nv pv gv kv V){g:Nat}(a:zk (fun k=>k=g) V Z)(s:w.1.size<=g:=by omega)(t:g<X.1.size:=by omega):qi B w q m' tv nv pv gv kv Z:=by
 obtain⟨l,m,b,j,o,p,r,n⟩:=u
 refine⟨l,m,b,j,o.kept a (fun k d e=>?_),p,((zk.of_below (f:=vP q tv nv pv gv kv) c).trans r (fun _ _ h=>h)).trans a (fun i x e=>?_),fun k d=>?_⟩
 ·rcases n k d with h|h
  ·have:=(v k h).2;omega
  ·omega
 ·omega
 ·rcases n k d with h|h
  ·exact .inl h
  ·exact .inr (by omega)
theorem zhk{w:E}{u d:Nat}{i:Ids}{c:Cf}{ct mv td:S}{ep eo:Int}(c':Cf)(Z:w.1[u]?=O (zw i.x d c' ct mv td eo))(a2:¬zU i u)(m:∀k,zU i k->k<w.1.size)(o:Ops)(te tn:Int)(C:Int->MS->Prop)
  (D:∀X,Q w.1.size w X->Calls prog 59 #[.pointer (O ⟨i.x,0,K⟩),I J o.a,I J o.b,I i32 o.v] X fun e V=>∃(q:Int) (m':MS),e=.returned (I J q)/\zy V i c ep m'/\zk (zU i) X V/\C q m'):
  Calls prog 103 #[.pointer (O ⟨u,0,K⟩),.agg #[I J 2,I J o.on,I J o.a,I J o.b,I J o.c,I i32 o.v,I J o.te,I J o.tn,I J o.fs,I J o.fe,I J o.fd,I J o.fw,I J o.fk,I J o.fq,.slice o.fa o.fn o.fc],.agg #[I J te,I J tn]] w fun e w'=>∃(q:Int) (m':MS),e=.returned (.tuple #[.agg #[I J 0,I J 0,I J 0,I J 0,I J 0,I J 0,I J 0,I J 0,I J 0,I J 0,I J 0],I J q])/\zy w' i c ep m'/\zk (zU i) w w'/\C q m':=by
 obtain⟨y0,y1,y2,l,yz⟩:=jr w (.cells #[I J 2,I J o.on,I J o.a,I J o.b,I J o.c,I i32 o.v,I J o.te,I J o.tn,I J o.fs,I J o.fe,I J o.fd,I J o.fw,I J o.fk,I J o.fq,.slice o.fa o.fn o.fc] 68) (.cells #[I J te,I J tn] 49) (.cells #[I J 0,I J 0,I J 0,I J 0,I J 0,I J 0,I J 0,I J 0,I J 0,I J 0,I J 0] 51)
 have M:=fun(V:E) (hb:Q w.1.size w V)=>ze (D V hb)
 have R:=ze m
 have a1:=zd Z
 have HP:=ze Z
 clear Z D
 go_enter func103,ntmps103
 go_wp2_with fail
 generalize(((w.alloc (.cells #[I J 2,I J o.on,I J o.a,I J o.b,I J o.c,I i32 o.v,I J o.te,I J o.tn,I J o.fs,I J o.fe,I J o.fd,I J o.fw,I J o.fk,I J o.fq,.slice o.fa o.fn o.fc] 68)).alloc (.cells #[I J te,I J tn] 49)).alloc (.cells #[I J 0,I J 0,I J 0,I J 0,I J 0,I J 0,I J 0,I J 0,I J 0,I J 0,I J 0] 51))=X at*
 have N:=M X l
 have P:=M X.drew l.drew
 clear M
 have t:=(l.block u a1).trans (ud HP)
 have z0:X.cell? ⟨u,0,K⟩=O (.pointer (O ⟨i.x,0,K⟩)):=by unfold zw at t;rw[zN t];rfl
 obtain⟨-,-,y,z,-,B,-⟩:=zc y0
 have a0:u<X.1.size:=by omega
 have n:w.1.size<X.1.size:=by omega
 have a3:w.1.size+1<X.1.size:=by omega
 have s:¬zU i w.1.size:=fun e=>by have:=m _ e;omega
 have a4:¬zU i (w.1.size+1):=fun e=>by have:=m _ e;omega
 have Y:¬zU i (w.1.size+2):=fun e=>by have:=m _ e;omega
 have W:w.1.size+2<X.1.size:=by omega
 have Y2:=ze y2
 have L:=ze l
 have YZ:=ze yz
 clear y0 y1 y2 l yz t m
 go_region_held3 (fun w'=>w'.cell? ⟨u,0,K⟩=O (.pointer (O ⟨i.x,0,K⟩))/\w'.cell? ⟨w.1.size,2,K⟩=O (I J o.a)/\w'.cell? ⟨w.1.size,3,K⟩=O (I J o.b)/\w'.cell? ⟨w.1.size,5,K⟩=O (I i32 o.v)) (go_keep) (first
  |(go_at_call 59;(first|refine(ud P).mono ?_|refine(ud N).mono ?_);rintro e V ⟨q,m',rfl,hm,j,ha⟩;have p:zk (zU i) X V:=⟨j.os,j.tape,j.output,j.size,j.block⟩;clear j;have H:=ze ha;have U:=ze hm;have v0:=(zr (i:=0) p a2 a0).trans z0;have a6:=(zr (i:=2) p s n).trans y;have a7:=(zr (i:=3) p s n).trans z;have a8:=(zr (i:=5) p s n).trans B;have r:=ze ((p.block (w.1.size+2) W Y).trans (ud Y2));have T:=ze p;clear hm p ha))
 have jf:=fun i=>zD (ud r) i
 obtain⟨j0,j1,j2,j3,j4,j5,j6,j7,j8,j9,a5⟩:=z11 (ud r)
 go_wp2_with(go_at_call 98;refine(ZE _ _).mono ?_;rintro e V1 ⟨rfl,G⟩;rw[G];clear G)
 have hf:=kH (ud r) (I J 0) (I J 0) (I J 0) (I J 0) (I J 0) (I J 0) (I J 0) (I J 0) (I J 0) (I J 0) (I J 0)
 have F:=qH (w:=V) (g:=w.1.size+2) (I J 0) (I J 0) (I J 0) (I J 0) (I J 0) (I J 0) (I J 0) (I J 0) (I J 0) (I J 0) (I J 0)
 refine bodyPost_ret (v:=.tuple #[.agg #[I J 0,I J 0,I J 0,I J 0,I J 0,I J 0,I J 0,I J 0,I J 0,I J 0,I J 0],I J q]) (zj results103 _ _ (w.1.size+2) _ _ _ _ _ rfl rfl hf underlying51 rfl (by kernel_rfl)) rfl ?_
 exact⟨q,m',rfl,(ud U).kept F (fun k p e=>by have:=ud R k p;omega),((zk.of_below (f:=zU i) (ud L)).trans (ud T) (fun _ _ h=>h)).trans F (fun i hi e=>by omega),ud H⟩
theorem zhl{w:E}{s d:Nat}{i:Ids}{c:Cf}{ct mv td:S}{ep eo:Int}(c':Cf)(W:w.1[s]?=O (zw i.x d c' ct mv td eo))(a0:¬zU i s)(m:∀k,zU i k->k<w.1.size)(o:Ops)(te tn:Int)(u:Int->MS->Prop)
  (y:∀X,Q w.1.size w X->Calls prog 36 #[.pointer (O ⟨i.x,0,K⟩),I J o.a] X fun e V=>∃(n:Int) (m':MS),e=.returned (I J n)/\zy V i c ep m'/\zk (zU i) X V/\u n m'):
  Calls prog 103 #[.pointer (O ⟨s,0,K⟩),.agg #[I J 3,I J o.on,I J o.a,I J o.b,I J o.c,I i32 o.v,I J o.te,I J o.tn,I J o.fs,I J o.fe,I J o.fd,I J o.fw,I J o.fk,I J o.fq,.slice o.fa o.fn o.fc],.agg #[I J te,I J tn]] w fun e w'=>∃(n:Int) (m':MS),e=.returned (.tuple #[.agg #[I J 0,I J 0,I J 0,I J 0,I J 0,I J 0,I J 0,I J 0,I J 0,I J 0,I J 0],I J n])/\zy w' i c ep m'/\zk (zU i) w w'/\u n m':=by
 obtain⟨y0,y1,y2,l,yz⟩:=jr w (.cells #[I J 3,I J o.on,I J o.a,I J o.b,I J o.c,I i32 o.v,I J o.te,I J o.tn,I J o.fs,I J o.fe,I J o.fd,I J o.fw,I J o.fk,I J o.fq,.slice o.fa o.fn o.fc] 68) (.cells #[I J te,I J tn] 49) (.cells #[I J 0,I J 0,I J 0,I J 0,I J 0,I J 0,I J 0,I J 0,I J 0,I J 0,I J 0] 51)
 have G:=fun(V:E) (hb:Q w.1.size w V)=>ze (y V hb)
 have M:=ze m
 have Z:=zd W
 have HP:=ze W
 clear W y
 go_enter func103,ntmps103
 go_wp2_with fail
 generalize(((w.alloc (.cells #[I J 3,I J o.on,I J o.a,I J o.b,I J o.c,I i32 o.v,I J o.te,I J o.tn,I J o.fs,I J o.fe,I J o.fd,I J o.fw,I J o.fk,I J o.fq,.slice o.fa o.fn o.fc] 68)).alloc (.cells #[I J te,I J tn] 49)).alloc (.cells #[I J 0,I J 0,I J 0,I J 0,I J 0,I J 0,I J 0,I J 0,I J 0,I J 0,I J 0] 51))=X at*
 have H:=G X l
 have L:=G X.drew l.drew
 clear G
 have r:=(l.block s Z).trans (ud HP)
 have z0:X.cell? ⟨s,0,K⟩=O (.pointer (O ⟨i.x,0,K⟩)):=by unfold zw at r;rw[zN r];rfl
 obtain⟨-,-,t,-⟩:=zc y0
 have Y:s<X.1.size:=by omega
 have C:w.1.size<X.1.size:=by omega
 have a1:w.1.size+1<X.1.size:=by omega
 have T:¬zU i w.1.size:=fun e=>by have:=m _ e;omega
 have a2:¬zU i (w.1.size+1):=fun e=>by have:=m _ e;omega
 have U:¬zU i (w.1.size+2):=fun e=>by have:=m _ e;omega
 have R:w.1.size+2<X.1.size:=by omega
 have Y2:=ze y2
 have F:=ze l
 have YZ:=ze yz
 clear y0 y1 y2 l yz r m
 go_region_held3 (fun w'=>w'.cell? ⟨s,0,K⟩=O (.pointer (O ⟨i.x,0,K⟩))/\w'.cell? ⟨w.1.size,2,K⟩=O (I J o.a)) (go_keep) (first
  |(go_at_call 36;(first|refine(ud L).mono ?_|refine(ud H).mono ?_);rintro e V ⟨n,m',rfl,hm,j,ha⟩;have q:zk (zU i) X V:=⟨j.os,j.tape,j.output,j.size,j.block⟩;clear j;have D:=ze ha;have P:=ze hm;have v0:=(zr (i:=0) q a0 Y).trans z0;have a4:=(zr (i:=2) q T C).trans t;have p:=ze ((q.block (w.1.size+2) R U).trans (ud Y2));have N:=ze q;clear hm q ha))
 have jf:=fun i=>zD (ud p) i
 obtain⟨j0,j1,j2,j3,j4,j5,j6,j7,j8,j9,a3⟩:=z11 (ud p)
 go_wp2_with(go_at_call 98;refine(ZE _ _).mono ?_;rintro e V1 ⟨rfl,B⟩;rw[B];clear B)
 have hf:=kH (ud p) (I J 0) (I J 0) (I J 0) (I J 0) (I J 0) (I J 0) (I J 0) (I J 0) (I J 0) (I J 0) (I J 0)
 have z:=qH (w:=V) (g:=w.1.size+2) (I J 0) (I J 0) (I J 0) (I J 0) (I J 0) (I J 0) (I J 0) (I J 0) (I J 0) (I J 0) (I J 0)
 refine bodyPost_ret (v:=.tuple #[.agg #[I J 0,I J 0,I J 0,I J 0,I J 0,I J 0,I J 0,I J 0,I J 0,I J 0,I J 0],I J n]) (zj results103 _ _ (w.1.size+2) _ _ _ _ _ rfl rfl hf underlying51 rfl (by kernel_rfl)) rfl ?_
 exact⟨n,m',rfl,(ud P).kept z (fun k q e=>by have:=ud M k q;omega),((zk.of_below (f:=zU i) (ud F)).trans (ud N) (fun _ _ h=>h)).trans z (fun i hi e=>by omega),ud D⟩
theorem zhn{w:E}{t d:Nat}{i:Ids}{c:Cf}{ct mv td:S}{ep eo:Int}(c':Cf)(Y:w.1[t]?=O (zw i.x d c' ct mv td eo))(a1:¬zU i t)(m:∀k,zU i k->k<w.1.size)(o:Ops)(te tn:Int)(z:Int->MS->Prop)
  (B:∀X,Q w.1.size w X->Calls prog 18 #[.pointer (O ⟨i.x,0,K⟩),.agg #[I J te,I J tn]] X fun e V=>∃(n:Int) (m':MS),e=.returned (I J n)/\zy V i c ep m'/\zk (zU i) X V/\z n m'):
  Calls prog 103 #[.pointer (O ⟨t,0,K⟩),.agg #[I J 7,I J o.on,I J o.a,I J o.b,I J o.c,I i32 o.v,I J o.te,I J o.tn,I J o.fs,I J o.fe,I J o.fd,I J o.fw,I J o.fk,I J o.fq,.slice o.fa o.fn o.fc],.agg #[I J te,I J tn]] w fun e w'=>∃(n:Int) (m':MS),e=.returned (.tuple #[.agg #[I J 0,I J 0,I J 0,I J 0,I J 0,I J 0,I J 0,I J 0,I J 0,I J 0,I J 0],I J n])/\zy w' i c ep m'/\zk (zU i) w w'/\z n m':=by
 obtain⟨y0,y1,y2,l,yz⟩:=jr w (.cells #[I J 7,I J o.on,I J o.a,I J o.b,I J o.c,I i32 o.v,I J o.te,I J o.tn,I J o.fs,I J o.fe,I J o.fd,I J o.fw,I J o.fk,I J o.fq,.slice o.fa o.fn o.fc] 68) (.cells #[I J te,I J tn] 49) (.cells #[I J 0,I J 0,I J 0,I J 0,I J 0,I J 0,I J 0,I J 0,I J 0,I J 0,I J 0] 51)
 have L:=fun(V:E) (hb:Q w.1.size w V)=>ze (B V hb)
 have P:=ze m
 have a0:=zd Y
 have HP:=ze Y
 clear Y B
 go_enter func103,ntmps103
 go_wp2_with fail
 generalize(((w.alloc (.cells #[I J 7,I J o.on,I J o.a,I J o.b,I J o.c,I i32 o.v,I J o.te,I J o.tn,I J o.fs,I J o.fe,I J o.fd,I J o.fw,I J o.fk,I J o.fq,.slice o.fa o.fn o.fc] 68)).alloc (.cells #[I J te,I J tn] 49)).alloc (.cells #[I J 0,I J 0,I J 0,I J 0,I J 0,I J 0,I J 0,I J 0,I J 0,I J 0,I J 0] 51))=X at*
 have M:=L X l
 have N:=L X.drew l.drew
 clear L
 have s:=(l.block t a0).trans (ud HP)
 have z0:X.cell? ⟨t,0,K⟩=O (.pointer (O ⟨i.x,0,K⟩)):=by unfold zw at s;rw[zN s];rfl
 obtain⟨u,y,-⟩:=zc y1
 have Z:t<X.1.size:=by omega
 have a2:w.1.size<X.1.size:=by omega
 have q:w.1.size+1<X.1.size:=by omega
 have a3:¬zU i w.1.size:=fun e=>by have:=m _ e;omega
 have F:¬zU i (w.1.size+1):=fun e=>by have:=m _ e;omega
 have W:¬zU i (w.1.size+2):=fun e=>by have:=m _ e;omega
 have U:w.1.size+2<X.1.size:=by omega
 have Y2:=ze y2
 have H:=ze l
 have YZ:=ze yz
 clear y0 y1 y2 l yz s m
 go_region_held3 (fun w'=>w'.cell? ⟨t,0,K⟩=O (.pointer (O ⟨i.x,0,K⟩))/\w'.cell? ⟨w.1.size+1,0,K⟩=O (I J te)/\w'.cell? ⟨w.1.size+1,1,K⟩=O (I J tn)) (go_keep) (first
  |(go_at_call 18;(first|refine(ud N).mono ?_|refine(ud M).mono ?_);rintro e V ⟨n,m',rfl,hm,j,ha⟩;have p:zk (zU i) X V:=⟨j.os,j.tape,j.output,j.size,j.block⟩;clear j;have G:=ze ha;have T:=ze hm;have v0:=(zr (i:=0) p a1 Z).trans z0;have a5:=(zr (i:=0) p F q).trans u;have a6:=(zr (i:=1) p F q).trans y;have r:=ze ((p.block (w.1.size+2) U W).trans (ud Y2));have R:=ze p;clear hm p ha))
 have jf:=fun i=>zD (ud r) i
 obtain⟨j0,j1,j2,j3,j4,j5,j6,j7,j8,j9,a4⟩:=z11 (ud r)
 go_wp2_with(go_at_call 98;refine(ZE _ _).mono ?_;rintro e V1 ⟨rfl,D⟩;rw[D];clear D)
 have hf:=kH (ud r) (I J 0) (I J 0) (I J 0) (I J 0) (I J 0) (I J 0) (I J 0) (I J 0) (I J 0) (I J 0) (I J 0)
 have C:=qH (w:=V) (g:=w.1.size+2) (I J 0) (I J 0) (I J 0) (I J 0) (I J 0) (I J 0) (I J 0) (I J 0) (I J 0) (I J 0) (I J 0)
 refine bodyPost_ret (v:=.tuple #[.agg #[I J 0,I J 0,I J 0,I J 0,I J 0,I J 0,I J 0,I J 0,I J 0,I J 0,I J 0],I J n]) (zj results103 _ _ (w.1.size+2) _ _ _ _ _ rfl rfl hf underlying51 rfl (by kernel_rfl)) rfl ?_
 exact⟨n,m',rfl,(ud T).kept C (fun k p e=>by have:=ud P k p;omega),((zk.of_below (f:=zU i) (ud H)).trans (ud R) (fun _ _ h=>h)).trans C (fun i hi e=>by omega),ud G⟩
theorem zho{w:E}{t d:Nat}{i:Ids}{c:Cf}{ct mv td:S}{ep eo:Int}(c':Cf)(Y:w.1[t]?=O (zw i.x d c' ct mv td eo))(a1:¬zU i t)(m:∀k,zU i k->k<w.1.size)(o:Ops)(te tn:Int)(z:Int->MS->Prop)
  (B:∀X,Q w.1.size w X->Calls prog 19 #[.pointer (O ⟨i.x,0,K⟩),.agg #[I J te,I J tn]] X fun e V=>∃(n:Int) (m':MS),e=.returned (I J n)/\zy V i c ep m'/\zk (zU i) X V/\z n m'):
  Calls prog 103 #[.pointer (O ⟨t,0,K⟩),.agg #[I J 8,I J o.on,I J o.a,I J o.b,I J o.c,I i32 o.v,I J o.te,I J o.tn,I J o.fs,I J o.fe,I J o.fd,I J o.fw,I J o.fk,I J o.fq,.slice o.fa o.fn o.fc],.agg #[I J te,I J tn]] w fun e w'=>∃(n:Int) (m':MS),e=.returned (.tuple #[.agg #[I J 0,I J 0,I J 0,I J 0,I J 0,I J 0,I J 0,I J 0,I J 0,I J 0,I J 0],I J n])/\zy w' i c ep m'/\zk (zU i) w w'/\z n m':=by
 obtain⟨y0,y1,y2,l,yz⟩:=jr w (.cells #[I J 8,I J o.on,I J o.a,I J o.b,I J o.c,I i32 o.v,I J o.te,I J o.tn,I J o.fs,I J o.fe,I J o.fd,I J o.fw,I J o.fk,I J o.fq,.slice o.fa o.fn o.fc] 68) (.cells #[I J te,I J tn] 49) (.cells #[I J 0,I J 0,I J 0,I J 0,I J 0,I J 0,I J 0,I J 0,I J 0,I J 0,I J 0] 51)
 have L:=fun(V:E) (hb:Q w.1.size w V)=>ze (B V hb)
 have P:=ze m
 have a0:=zd Y
 have HP:=ze Y
 clear Y B
 go_enter func103,ntmps103
 go_wp2_with fail
 generalize(((w.alloc (.cells #[I J 8,I J o.on,I J o.a,I J o.b,I J o.c,I i32 o.v,I J o.te,I J o.tn,I J o.fs,I J o.fe,I J o.fd,I J o.fw,I J o.fk,I J o.fq,.slice o.fa o.fn o.fc] 68)).alloc (.cells #[I J te,I J tn] 49)).alloc (.cells #[I J 0,I J 0,I J 0,I J 0,I J 0,I J 0,I J 0,I J 0,I J 0,I J 0,I J 0] 51))=X at*
 have M:=L X l
 have N:=L X.drew l.drew
 clear L
 have s:=(l.block t a0).trans (ud HP)
 have z0:X.cell? ⟨t,0,K⟩=O (.pointer (O ⟨i.x,0,K⟩)):=by unfold zw at s;rw[zN s];rfl
 obtain⟨u,y,-⟩:=zc y1
 have Z:t<X.1.size:=by omega
 have a2:w.1.size<X.1.size:=by omega
 have q:w.1.size+1<X.1.size:=by omega
 have a3:¬zU i w.1.size:=fun e=>by have:=m _ e;omega
 have F:¬zU i (w.1.size+1):=fun e=>by have:=m _ e;omega
 have W:¬zU i (w.1.size+2):=fun e=>by have:=m _ e;omega
 have U:w.1.size+2<X.1.size:=by omega
 have Y2:=ze y2
 have H:=ze l
 have YZ:=ze yz
 clear y0 y1 y2 l yz s m
 go_region_held3 (fun w'=>w'.cell? ⟨t,0,K⟩=O (.pointer (O ⟨i.x,0,K⟩))/\w'.cell? ⟨w.1.size+1,0,K⟩=O (I J te)/\w'.cell? ⟨w.1.size+1,1,K⟩=O (I J tn)) (go_keep) (first
  |(go_at_call 19;(first|refine(ud N).mono ?_|refine(ud M).mono ?_);rintro e V ⟨n,m',rfl,hm,j,ha⟩;have p:zk (zU i) X V:=⟨j.os,j.tape,j.output,j.size,j.block⟩;clear j;have G:=ze ha;have T:=ze hm;have v0:=(zr (i:=0) p a1 Z).trans z0;have a5:=(zr (i:=0) p F q).trans u;have a6:=(zr (i:=1) p F q).trans y;have r:=ze ((p.block (w.1.size+2) U W).trans (ud Y2));have R:=ze p;clear hm p ha))
 have jf:=fun i=>zD (ud r) i
 obtain⟨j0,j1,j2,j3,j4,j5,j6,j7,j8,j9,a4⟩:=z11 (ud r)
 go_wp2_with(go_at_call 98;refine(ZE _ _).mono ?_;rintro e V1 ⟨rfl,D⟩;rw[D];clear D)
 have hf:=kH (ud r) (I J 0) (I J 0) (I J 0) (I J 0) (I J 0) (I J 0) (I J 0) (I J 0) (I J 0) (I J 0) (I J 0)
 have C:=qH (w:=V) (g:=w.1.size+2) (I J 0) (I J 0) (I J 0) (I J 0) (I J 0) (I J 0) (I J 0) (I J 0) (I J 0) (I J 0) (I J 0)
 refine bodyPost_ret (v:=.tuple #[.agg #[I J 0,I J 0,I J 0,I J 0,I J 0,I J 0,I J 0,I J 0,I J 0,I J 0,I J 0],I J n]) (zj results103 _ _ (w.1.size+2) _ _ _ _ _ rfl rfl hf underlying51 rfl (by kernel_rfl)) rfl ?_
 exact⟨n,m',rfl,(ud T).kept C (fun k p e=>by have:=ud P k p;omega),((zk.of_below (f:=zU i) (ud H)).trans (ud R) (fun _ _ h=>h)).trans C (fun i hi e=>by omega),ud G⟩
theorem zkz{B:Nat}{w:E}{q:Nat}{m:RM}{tv nv pv gv kv:S}(h:zJ B w q m tv nv pv gv kv)(o:Ops)(te tn:Int){r:Int}{m':RM}
  (j:∀X,Q w.1.size w X->Calls prog 152 #[.pointer (O ⟨q,0,K⟩),I J o.a,I J o.b,I i32 o.v] X fun e V=>e=.returned (I J r)/\qi B X q m' tv nv pv gv kv V):
  Calls prog 105 #[.pointer (O ⟨q,0,K⟩),.agg #[I J 2,I J o.on,I J o.a,I J o.b,I J o.c,I i32 o.v,I J o.te,I J o.tn,I J o.fs,I J o.fe,I J o.fd,I J o.fw,I J o.fk,I J o.fq,.slice o.fa o.fn o.fc],.agg #[I J te,I J tn]] w fun e w'=>e=.returned (.tuple #[.agg #[I J 0,I J 0,I J 0,I J 0,I J 0,I J 0,I J 0,I J 0,I J 0,I J 0,I J 0],I J r])/\qi B w q m' tv nv pv gv kv w':=by
 obtain⟨L,M,x,f,y⟩:=jr w (.cells #[I J 2,I J o.on,I J o.a,I J o.b,I J o.c,I i32 o.v,I J o.te,I J o.tn,I J o.fs,I J o.fe,I J o.fd,I J o.fw,I J o.fk,I J o.fq,.slice o.fa o.fn o.fc] 68) (.cells #[I J te,I J tn] 49) (.cells #[I J 0,I J 0,I J 0,I J 0,I J 0,I J 0,I J 0,I J 0,I J 0,I J 0,I J 0] 51)
 have z:=ze (j _ f)
 have k:=ze (Qd h)
 have G:=h.lt
 clear h j
 go_enter func105,ntmps105
 have C:=ze x
 have n:=ze f
 have u:=ze y
 clear L M x f y
 go_wp2_with fail
 generalize(((w.alloc (.cells #[I J 2,I J o.on,I J o.a,I J o.b,I J o.c,I i32 o.v,I J o.te,I J o.tn,I J o.fs,I J o.fe,I J o.fd,I J o.fw,I J o.fk,I J o.fq,.slice o.fa o.fn o.fc] 68)).alloc (.cells #[I J te,I J tn] 49)).alloc (.cells #[I J 0,I J 0,I J 0,I J 0,I J 0,I J 0,I J 0,I J 0,I J 0,I J 0,I J 0] 51))=X at*
 refine(ud z).mono ?_
 rintro e V ⟨rfl,t⟩
 have F:w.1.size+2<X.1.size:=by rw[ud u];omega
 have l:=t.kept.heap (ud C) (fun e=>by have:=(ud k _ e).2;omega)
 have d:=ze l
 have p:=ze t
 clear t l
 obtain⟨N,P,R,T,U,W,Y,Z,j8,j9,H⟩:=z11 (ud d)
 have jf:=fun i=>zD (ud d) i
 have jl:=zd (ud d)
 go_wp2_with fail
 have D:=kH (ud d) (I J 0) (I J 0) (I J 0) (I J 0) (I J 0) (I J 0) (I J 0) (I J 0) (I J 0) (I J 0) (I J 0)
 have s:=qH (w:=V) (g:=w.1.size+2) (I J 0) (I J 0) (I J 0) (I J 0) (I J 0) (I J 0) (I J 0) (I J 0) (I J 0) (I J 0) (I J 0)
 refine bodyPost_ret (v:=.tuple #[.agg #[I J 0,I J 0,I J 0,I J 0,I J 0,I J 0,I J 0,I J 0,I J 0,I J 0,I J 0],I J r]) (zj results105 _ _ (w.1.size+2) _ _ _ _ _ rfl rfl D underlying51 rfl (by kernel_rfl)) rfl ?_
 exact⟨rfl,yH (ud k) (ud n) (ud u) (ud p) s⟩
theorem zkA{B:Nat}{w:E}{q:Nat}{m:RM}{tv nv pv gv kv:S}(h:zJ B w q m tv nv pv gv kv)(o:Ops)(te tn:Int){r:Int}{m':RM}
  (j:∀X,Q w.1.size w X->Calls prog 153 #[.pointer (O ⟨q,0,K⟩),I J o.a] X fun e V=>e=.returned (I J r)/\qi B X q m' tv nv pv gv kv V):
  Calls prog 105 #[.pointer (O ⟨q,0,K⟩),.agg #[I J 3,I J o.on,I J o.a,I J o.b,I J o.c,I i32 o.v,I J o.te,I J o.tn,I J o.fs,I J o.fe,I J o.fd,I J o.fw,I J o.fk,I J o.fq,.slice o.fa o.fn o.fc],.agg #[I J te,I J tn]] w fun e w'=>e=.returned (.tuple #[.agg #[I J 0,I J 0,I J 0,I J 0,I J 0,I J 0,I J 0,I J 0,I J 0,I J 0,I J 0],I J r])/\qi B w q m' tv nv pv gv kv w':=by
 obtain⟨L,M,x,f,y⟩:=jr w (.cells #[I J 3,I J o.on,I J o.a,I J o.b,I J o.c,I i32 o.v,I J o.te,I J o.tn,I J o.fs,I J o.fe,I J o.fd,I J o.fw,I J o.fk,I J o.fq,.slice o.fa o.fn o.fc] 68) (.cells #[I J te,I J tn] 49) (.cells #[I J 0,I J 0,I J 0,I J 0,I J 0,I J 0,I J 0,I J 0,I J 0,I J 0,I J 0] 51)
 have z:=ze (j _ f)
 have k:=ze (Qd h)
 have G:=h.lt
 clear h j
 go_enter func105,ntmps105
 have C:=ze x
 have n:=ze f
 have u:=ze y
 clear L M x f y
 go_wp2_with fail
 generalize(((w.alloc (.cells #[I J 3,I J o.on,I J o.a,I J o.b,I J o.c,I i32 o.v,I J o.te,I J o.tn,I J o.fs,I J o.fe,I J o.fd,I J o.fw,I J o.fk,I J o.fq,.slice o.fa o.fn o.fc] 68)).alloc (.cells #[I J te,I J tn] 49)).alloc (.cells #[I J 0,I J 0,I J 0,I J 0,I J 0,I J 0,I J 0,I J 0,I J 0,I J 0,I J 0] 51))=X at*
 refine(ud z).mono ?_
 rintro e V ⟨rfl,t⟩
 have F:w.1.size+2<X.1.size:=by rw[ud u];omega
 have l:=t.kept.heap (ud C) (fun e=>by have:=(ud k _ e).2;omega)
 have d:=ze l
 have p:=ze t
 clear t l
 obtain⟨N,P,R,T,U,W,Y,Z,j8,j9,H⟩:=z11 (ud d)
 have jf:=fun i=>zD (ud d) i
 have jl:=zd (ud d)
 go_wp2_with fail
 have D:=kH (ud d) (I J 0) (I J 0) (I J 0) (I J 0) (I J 0) (I J 0) (I J 0) (I J 0) (I J 0) (I J 0) (I J 0)
 have s:=qH (w:=V) (g:=w.1.size+2) (I J 0) (I J 0) (I J 0) (I J 0) (I J 0) (I J 0) (I J 0) (I J 0) (I J 0) (I J 0) (I J 0)
 refine bodyPost_ret (v:=.tuple #[.agg #[I J 0,I J 0,I J 0,I J 0,I J 0,I J 0,I J 0,I J 0,I J 0,I J 0,I J 0],I J r]) (zj results105 _ _ (w.1.size+2) _ _ _ _ _ rfl rfl D underlying51 rfl (by kernel_rfl)) rfl ?_
 exact⟨rfl,yH (ud k) (ud n) (ud u) (ud p) s⟩
theorem zkB{B:Nat}{w:E}{q:Nat}{m:RM}{tv nv pv gv kv:S}(h:zJ B w q m tv nv pv gv kv)(o:Ops)(te tn:Int){jb:Tk}{r:Int}{m':RM}
  (j:∀X,Q w.1.size w X->Calls prog 154 #[.pointer (O ⟨q,0,K⟩),I J o.a] X fun e V=>e=.returned (.tuple #[tkA jb,I J r])/\qi B X q m' tv nv pv gv kv V):
  Calls prog 105 #[.pointer (O ⟨q,0,K⟩),.agg #[I J 6,I J o.on,I J o.a,I J o.b,I J o.c,I i32 o.v,I J o.te,I J o.tn,I J o.fs,I J o.fe,I J o.fd,I J o.fw,I J o.fk,I J o.fq,.slice o.fa o.fn o.fc],.agg #[I J te,I J tn]] w fun e w'=>e=.returned (.tuple #[tkA jb,I J r])/\qi B w q m' tv nv pv gv kv w':=by
 obtain⟨N,P,z,f,C⟩:=jr w (.cells #[I J 6,I J o.on,I J o.a,I J o.b,I J o.c,I i32 o.v,I J o.te,I J o.tn,I J o.fs,I J o.fe,I J o.fd,I J o.fw,I J o.fk,I J o.fq,.slice o.fa o.fn o.fc] 68) (.cells #[I J te,I J tn] 49) (.cells #[I J 0,I J 0,I J 0,I J 0,I J 0,I J 0,I J 0,I J 0,I J 0,I J 0,I J 0] 51)
 have D:=ze (j _ f)
 have k:=ze (Qd h)
 have L:=h.lt
 clear h j
 go_enter func105,ntmps105
 have F:=ze z
 have n:=ze f
 have y:=ze C
 clear N P z f C
 go_wp2_with fail
 generalize(((w.alloc (.cells #[I J 6,I J o.on,I J o.a,I J o.b,I J o.c,I i32 o.v,I J o.te,I J o.tn,I J o.fs,I J o.fe,I J o.fd,I J o.fw,I J o.fk,I J o.fq,.slice o.fa o.fn o.fc] 68)).alloc (.cells #[I J te,I J tn] 49)).alloc (.cells #[I J 0,I J 0,I J 0,I J 0,I J 0,I J 0,I J 0,I J 0,I J 0,I J 0,I J 0] 51))=X at*
 refine(ud D).mono ?_
 rintro e V ⟨rfl,x⟩
 have H:w.1.size+2<X.1.size:=by rw[ud y];omega
 have l:=x.kept.heap (ud F) (fun e=>by have:=(ud k _ e).2;omega)
 have d:=ze l
 have p:=ze x
 clear x l
 obtain⟨R,T,U,W,Y,Z,j6,j7,j8,j9,M⟩:=z11 (ud d)
 have jf:=fun i=>zD (ud d) i
 have jl:=zd (ud d)
 go_wp2_with fail
 have G:=kH (ud d) (I J jb.kind) (I J jb.s.t) (I J jb.s.se) (I J jb.s.we) (I J jb.si) (I J jb.tc) (I J jb.rest) (I J jb.ep) (I J jb.num) (I J jb.slot) (I J jb.till)
 have u:=qH (w:=V) (g:=w.1.size+2) (I J jb.kind) (I J jb.s.t) (I J jb.s.se) (I J jb.s.we) (I J jb.si) (I J jb.tc) (I J jb.rest) (I J jb.ep) (I J jb.num) (I J jb.slot) (I J jb.till)
 refine bodyPost_ret (v:=.tuple #[tkA jb,I J r]) (zj results105 _ _ (w.1.size+2) _ _ _ _ _ rfl rfl G underlying51 rfl (by kernel_rfl)) rfl ?_
 exact⟨rfl,yH (ud k) (ud n) (ud y) (ud p) u⟩
theorem zkC{B:Nat}{w:E}{q:Nat}{m:RM}{tv nv pv gv kv:S}(h:zJ B w q m tv nv pv gv kv)(o:Ops)(te tn:Int){r:Int}{m':RM}
  (j:∀X,Q w.1.size w X->Calls prog 155 #[.pointer (O ⟨q,0,K⟩),.agg #[I J te,I J tn]] X fun e V=>e=.returned (I J r)/\qi B X q m' tv nv pv gv kv V):
  Calls prog 105 #[.pointer (O ⟨q,0,K⟩),.agg #[I J 7,I J o.on,I J o.a,I J o.b,I J o.c,I i32 o.v,I J o.te,I J o.tn,I J o.fs,I J o.fe,I J o.fd,I J o.fw,I J o.fk,I J o.fq,.slice o.fa o.fn o.fc],.agg #[I J te,I J tn]] w fun e w'=>e=.returned (.tuple #[.agg #[I J 0,I J 0,I J 0,I J 0,I J 0,I J 0,I J 0,I J 0,I J 0,I J 0,I J 0],I J r])/\qi B w q m' tv nv pv gv kv w':=by
 obtain⟨L,M,x,f,y⟩:=jr w (.cells #[I J 7,I J o.on,I J o.a,I J o.b,I J o.c,I i32 o.v,I J o.te,I J o.tn,I J o.fs,I J o.fe,I J o.fd,I J o.fw,I J o.fk,I J o.fq,.slice o.fa o.fn o.fc] 68) (.cells #[I J te,I J tn] 49) (.cells #[I J 0,I J 0,I J 0,I J 0,I J 0,I J 0,I J 0,I J 0,I J 0,I J 0,I J 0] 51)
 have z:=ze (j _ f)
 have k:=ze (Qd h)
 have G:=h.lt
 clear h j
 go_enter func105,ntmps105
 have C:=ze x
 have n:=ze f
 have u:=ze y
 clear L M x f y
 go_wp2_with fail
 generalize(((w.alloc (.cells #[I J 7,I J o.on,I J o.a,I J o.b,I J o.c,I i32 o.v,I J o.te,I J o.tn,I J o.fs,I J o.fe,I J o.fd,I J o.fw,I J o.fk,I J o.fq,.slice o.fa o.fn o.fc] 68)).alloc (.cells #[I J te,I J tn] 49)).alloc (.cells #[I J 0,I J 0,I J 0,I J 0,I J 0,I J 0,I J 0,I J 0,I J 0,I J 0,I J 0] 51))=X at*
 refine(ud z).mono ?_
 rintro e V ⟨rfl,t⟩
 have F:w.1.size+2<X.1.size:=by rw[ud u];omega
 have l:=t.kept.heap (ud C) (fun e=>by have:=(ud k _ e).2;omega)
 have d:=ze l
 have p:=ze t
 clear t l
 obtain⟨N,P,R,T,U,W,Y,Z,j8,j9,H⟩:=z11 (ud d)
 have jf:=fun i=>zD (ud d) i
 have jl:=zd (ud d)
 go_wp2_with fail
 have D:=kH (ud d) (I J 0) (I J 0) (I J 0) (I J 0) (I J 0) (I J 0) (I J 0) (I J 0) (I J 0) (I J 0) (I J 0)
 have s:=qH (w:=V) (g:=w.1.size+2) (I J 0) (I J 0) (I J 0) (I J 0) (I J 0) (I J 0) (I J 0) (I J 0) (I J 0) (I J 0) (I J 0)
 refine bodyPost_ret (v:=.tuple #[.agg #[I J 0,I J 0,I J 0,I J 0,I J 0,I J 0,I J 0,I J 0,I J 0,I J 0,I J 0],I J r]) (zj results105 _ _ (w.1.size+2) _ _ _ _ _ rfl rfl D underlying51 rfl (by kernel_rfl)) rfl ?_
 exact⟨rfl,yH (ud k) (ud n) (ud u) (ud p) s⟩
theorem zkD{B:Nat}{w:E}{q:Nat}{m:RM}{tv nv pv gv kv:S}(h:zJ B w q m tv nv pv gv kv)(o:Ops)(te tn:Int){r:Int}{m':RM}
  (j:∀X,Q w.1.size w X->Calls prog 156 #[.pointer (O ⟨q,0,K⟩),.agg #[I J te,I J tn]] X fun e V=>e=.returned (I J r)/\qi B X q m' tv nv pv gv kv V):
  Calls prog 105 #[.pointer (O ⟨q,0,K⟩),.agg #[I J 8,I J o.on,I J o.a,I J o.b,I J o.c,I i32 o.v,I J o.te,I J o.tn,I J o.fs,I J o.fe,I J o.fd,I J o.fw,I J o.fk,I J o.fq,.slice o.fa o.fn o.fc],.agg #[I J te,I J tn]] w fun e w'=>e=.returned (.tuple #[.agg #[I J 0,I J 0,I J 0,I J 0,I J 0,I J 0,I J 0,I J 0,I J 0,I J 0,I J 0],I J r])/\qi B w q m' tv nv pv gv kv w':=by
 obtain⟨L,M,x,f,y⟩:=jr w (.cells #[I J 8,I J o.on,I J o.a,I J o.b,I J o.c,I i32 o.v,I J o.te,I J o.tn,I J o.fs,I J o.fe,I J o.fd,I J o.fw,I J o.fk,I J o.fq,.slice o.fa o.fn o.fc] 68) (.cells #[I J te,I J tn] 49) (.cells #[I J 0,I J 0,I J 0,I J 0,I J 0,I J 0,I J 0,I J 0,I J 0,I J 0,I J 0] 51)
 have z:=ze (j _ f)
 have k:=ze (Qd h)
 have G:=h.lt
 clear h j
 go_enter func105,ntmps105
 have C:=ze x
 have n:=ze f
 have u:=ze y
 clear L M x f y
 go_wp2_with fail
 generalize(((w.alloc (.cells #[I J 8,I J o.on,I J o.a,I J o.b,I J o.c,I i32 o.v,I J o.te,I J o.tn,I J o.fs,I J o.fe,I J o.fd,I J o.fw,I J o.fk,I J o.fq,.slice o.fa o.fn o.fc] 68)).alloc (.cells #[I J te,I J tn] 49)).alloc (.cells #[I J 0,I J 0,I J 0,I J 0,I J 0,I J 0,I J 0,I J 0,I J 0,I J 0,I J 0] 51))=X at*
 refine(ud z).mono ?_
 rintro e V ⟨rfl,t⟩
 have F:w.1.size+2<X.1.size:=by rw[ud u];omega
 have l:=t.kept.heap (ud C) (fun e=>by have:=(ud k _ e).2;omega)
 have d:=ze l
 have p:=ze t
 clear t l
 obtain⟨N,P,R,T,U,W,Y,Z,j8,j9,H⟩:=z11 (ud d)
 have jf:=fun i=>zD (ud d) i
 have jl:=zd (ud d)
 go_wp2_with fail
 have D:=kH (ud d) (I J 0) (I J 0) (I J 0) (I J 0) (I J 0) (I J 0) (I J 0) (I J 0) (I J 0) (I J 0) (I J 0)
 have s:=qH (w:=V) (g:=w.1.size+2) (I J 0) (I J 0) (I J 0) (I J 0) (I J 0) (I J 0) (I J 0) (I J 0) (I J 0) (I J 0) (I J 0)
 refine bodyPost_ret (v:=.tuple #[.agg #[I J 0,I J 0,I J 0,I J 0,I J 0,I J 0,I J 0,I J 0,I J 0,I J 0,I J 0],I J r]) (zj results105 _ _ (w.1.size+2) _ _ _ _ _ rfl rfl D underlying51 rfl (by kernel_rfl)) rfl ?_
 exact⟨rfl,yH (ud k) (ud n) (ud u) (ud p) s⟩
structure CPk(w Y:E)(i:Ids)(c:Cf)(ep:Int)(m':MS)(z:Nat)(jb:Tk):Prop where
 mill:zy Y i c ep m'
 kept:zk (zU i) w Y
 low:w.1.size+3<=z
 job:Y.1[z]?=O (.cells #[I J jb.kind,I J jb.s.t,I J jb.s.se,I J jb.s.we,I J jb.si,I J jb.tc,I J jb.rest,I J jb.ep,I J jb.num,I J jb.slot,I J jb.till] 51)
 res:Y.1[w.1.size+2]?=O (.cells #[I J 0,I J 0,I J 0,I J 0,I J 0,I J 0,I J 0,I J 0,I J 0,I J 0,I J 0] 51)
theorem CPk.ahead{w X V:E}{i:Ids}{c:Cf}{ep:Int}{m':MS}{jb:Tk}(f:∀k,zU i k->k<w.1.size)(j:Q w.1.size w X)(q:X.1.size=w.1.size+3)(d:X.1[w.1.size+2]?=O (.cells #[I J 0,I J 0,I J 0,I J 0,I J 0,I J 0,I J 0,I J 0,I J 0,I J 0,I J 0] 51))(a:zk (zU i) (X.alloc (.cells #[I J 0,I J 0,I J 0,I J 0,I J 0,I J 0,I J 0,I J 0,I J 0,I J 0,I J 0] 51)) V)(m:zy V i c ep m'):CPk w ((((((((((((V.setCell ⟨X.1.size,0,K⟩ (I J jb.kind)).setCell ⟨X.1.size,1,K⟩ (I J jb.s.t)).setCell ⟨X.1.size,2,K⟩ (I J jb.s.se)).setCell ⟨X.1.size,3,K⟩ (I J jb.s.we)).setCell ⟨X.1.size,4,K⟩ (I J jb.si)).setCell ⟨X.1.size,5,K⟩ (I J jb.tc)).setCell ⟨X.1.size,6,K⟩ (I J jb.rest)).setCell ⟨X.1.size,7,K⟩ (I J jb.ep)).setCell ⟨X.1.size,8,K⟩ (I J jb.num)).setCell ⟨X.1.size,9,K⟩ (I J jb.slot)).setCell ⟨X.1.size,10,K⟩ (I J jb.till))) i c ep m' X.1.size jb:=by
 have b:=qH (w:=V) (g:=X.1.size) (I J jb.kind) (I J jb.s.t) (I J jb.s.se) (I J jb.s.we) (I J jb.si) (I J jb.tc) (I J jb.rest) (I J jb.ep) (I J jb.num) (I J jb.slot) (I J jb.till)
 have hn:∀k,w.1.size<=k->¬zU i k:=fun k h e=>by have:=f k e;omega
 have o:(X.alloc (.cells #[I J 0,I J 0,I J 0,I J 0,I J 0,I J 0,I J 0,I J 0,I J 0,I J 0,I J 0] 51)).1.size=X.1.size+1:=zF _ _
 have l:=a.heap (zo X (.cells #[I J 0,I J 0,I J 0,I J 0,I J 0,I J 0,I J 0,I J 0,I J 0,I J 0,I J 0] 51)) (hn _ (by omega))
 have n:V.1[w.1.size+2]?=O (.cells #[I J 0,I J 0,I J 0,I J 0,I J 0,I J 0,I J 0,I J 0,I J 0,I J 0,I J 0] 51):=a.heap ((Below.heap_alloc _ _ _ (zd d)).trans d) (hn _ (by omega))
 refine⟨m.kept b (fun k e p=>by have:=f k e;omega),(((zk.of_below j).alloc _).trans a (fun _ _ h=>h)).trans b (fun k h e=>by omega),by omega,kH l (I J jb.kind) (I J jb.s.t) (I J jb.s.se) (I J jb.s.we) (I J jb.si) (I J jb.tc) (I J jb.rest) (I J jb.ep) (I J jb.num) (I J jb.slot) (I J jb.till),b.heap n (by omega)⟩
theorem CPk.behind{w X V:E}{i:Ids}{c:Cf}{ep:Int}{m':MS}{jb:Tk}(g:∀k,zU i k->k<w.1.size)(f:Q w.1.size w X)(m:X.1.size=w.1.size+3)(d:X.1[w.1.size+2]?=O (.cells #[I J 0,I J 0,I J 0,I J 0,I J 0,I J 0,I J 0,I J 0,I J 0,I J 0,I J 0] 51))(a:zk (zU i) X V)(j:zy V i c ep m'):CPk w (V.alloc (.cells #[I J jb.kind,I J jb.s.t,I J jb.s.se,I J jb.s.we,I J jb.si,I J jb.tc,I J jb.rest,I J jb.ep,I J jb.num,I J jb.slot,I J jb.till] 51)) i c ep m' V.1.size jb:=by
 have hn:∀k,w.1.size<=k->¬zU i k:=fun k h e=>by have:=g k e;omega
 have l:=a.size
 have b:V.1[w.1.size+2]?=O (.cells #[I J 0,I J 0,I J 0,I J 0,I J 0,I J 0,I J 0,I J 0,I J 0,I J 0,I J 0] 51):=a.heap d (hn _ (by omega))
 exact⟨j.later ((Below.refl _ _).alloc (Nat.le_refl _) _),((zk.of_below f).trans a (fun _ _ h=>h)).alloc _,by omega,zo _ _,(Below.heap_alloc _ _ _ (zd b)).trans b⟩
theorem zeW(w:E)(k:Nat):w.drew.1[k]?=w.1[k]?:=rfl
theorem KK{V:E}{z a i:Nat}(hn:¬a=z)(o:a<V.1.size)(c d e f h j k l m n b:S):((((((((((((V.setCell ⟨z,0,K⟩ (c)).setCell ⟨z,1,K⟩ (d)).setCell ⟨z,2,K⟩ (e)).setCell ⟨z,3,K⟩ (f)).setCell ⟨z,4,K⟩ (h)).setCell ⟨z,5,K⟩ (j)).setCell ⟨z,6,K⟩ (k)).setCell ⟨z,7,K⟩ (l)).setCell ⟨z,8,K⟩ (m)).setCell ⟨z,9,K⟩ (n)).setCell ⟨z,10,K⟩ (b))).cell? ⟨a,i,K⟩=V.cell? ⟨a,i,K⟩:=zr (qH (w:=V) (g:=z) c d e f h j k l m n b) hn o
theorem zhm{w:E}{n d:Nat}{i:Ids}{c:Cf}{ct mv td:S}{ep eo:Int}(c':Cf)(hp:w.1[n]?=O (zw i.x d c' ct mv td eo))(a5:¬zU i n)(y:∀k,zU i k->k<w.1.size)(o:Ops)(te tn:Int)(N:Tk->Int->MS->Prop)
  (R:∀X,Q w.1.size w X->Calls prog 16 #[.pointer (O ⟨i.x,0,K⟩),I J o.a] X fun e V=>∃(jb:Tk) (r:Int) (m':MS),e=.returned (.tuple #[tkA jb,I J r])/\zy V i c ep m'/\zk (zU i) X V/\N jb r m'):
  Calls prog 103 #[.pointer (O ⟨n,0,K⟩),.agg #[I J 6,I J o.on,I J o.a,I J o.b,I J o.c,I i32 o.v,I J o.te,I J o.tn,I J o.fs,I J o.fe,I J o.fd,I J o.fw,I J o.fk,I J o.fq,.slice o.fa o.fn o.fc],.agg #[I J te,I J tn]] w fun e w'=>∃(jb:Tk) (r:Int) (m':MS),e=.returned (.tuple #[tkA jb,I J r])/\zy w' i c ep m'/\zk (zU i) w w'/\N jb r m':=by
 obtain⟨y0,y1,y2,m,yz⟩:=jr w (.cells #[I J 6,I J o.on,I J o.a,I J o.b,I J o.c,I i32 o.v,I J o.te,I J o.tn,I J o.fs,I J o.fe,I J o.fd,I J o.fw,I J o.fk,I J o.fq,.slice o.fa o.fn o.fc] 68) (.cells #[I J te,I J tn] 49) (.cells #[I J 0,I J 0,I J 0,I J 0,I J 0,I J 0,I J 0,I J 0,I J 0,I J 0,I J 0] 51)
 have HC:=fun(V:E) (hb:Q w.1.size w V)=>ze (R V hb)
 have F:=ze y
 have ac:=zd hp
 have HP:=ze hp
 clear hp R
 go_enter func103,ntmps103
 go_wp2_with fail
 generalize(((w.alloc (.cells #[I J 6,I J o.on,I J o.a,I J o.b,I J o.c,I i32 o.v,I J o.te,I J o.tn,I J o.fs,I J o.fe,I J o.fd,I J o.fw,I J o.fk,I J o.fq,.slice o.fa o.fn o.fc] 68)).alloc (.cells #[I J te,I J tn] 49)).alloc (.cells #[I J 0,I J 0,I J 0,I J 0,I J 0,I J 0,I J 0,I J 0,I J 0,I J 0,I J 0] 51))=X at*
 have u:Q X.1.size X (X.alloc (.cells #[I J 0,I J 0,I J 0,I J 0,I J 0,I J 0,I J 0,I J 0,I J 0,I J 0,I J 0] 51)):=(Below.refl _ _).alloc (Nat.le_refl _) _
 have T:=HC X.drew m.drew
 have U:=HC (X.alloc (.cells #[I J 0,I J 0,I J 0,I J 0,I J 0,I J 0,I J 0,I J 0,I J 0,I J 0,I J 0] 51)).drew ((m.trans (u.mono m.size)).drew)
 clear HC
 have M:=(m.block n ac).trans (ud HP)
 have z0:X.cell? ⟨n,0,K⟩=O (.pointer (O ⟨i.x,0,K⟩)):=by unfold zw at M;rw[zN M];rfl
 obtain⟨-,-,z2,-⟩:=zc y0
 have B:n<X.1.size:=by omega
 have C:w.1.size<X.1.size:=by omega
 have ab:(X.alloc (.cells #[I J 0,I J 0,I J 0,I J 0,I J 0,I J 0,I J 0,I J 0,I J 0,I J 0,I J 0] 51)).1.size=X.1.size+1:=zF _ _
 have a9:=(u.cell (p:=⟨n,0,K⟩) B).trans z0
 have aa:=(u.cell (p:=⟨w.1.size,2,K⟩) C).trans z2
 have q:n<(X.alloc (.cells #[I J 0,I J 0,I J 0,I J 0,I J 0,I J 0,I J 0,I J 0,I J 0,I J 0,I J 0] 51)).1.size:=by omega
 have j:w.1.size<(X.alloc (.cells #[I J 0,I J 0,I J 0,I J 0,I J 0,I J 0,I J 0,I J 0,I J 0,I J 0,I J 0] 51)).1.size:=by omega
 have a7:X.1.size<(X.alloc (.cells #[I J 0,I J 0,I J 0,I J 0,I J 0,I J 0,I J 0,I J 0,I J 0,I J 0,I J 0] 51)).1.size:=by omega
 have a2:¬zU i w.1.size:=fun e=>by have:=y _ e;omega
 have a3:¬zU i X.1.size:=fun e=>by have:=y _ e;omega
 have ae:¬n=X.1.size:=by omega
 have ag:¬w.1.size=X.1.size:=by omega
 have Y2:=ze y2
 have D:=ze m
 have YZ:=ze yz
 have Z3:=ze (zo X (.cells #[I J 0,I J 0,I J 0,I J 0,I J 0,I J 0,I J 0,I J 0,I J 0,I J 0,I J 0] 51))
 have a0:=ze a9
 have a1:=ze aa
 clear y0 y1 y2 m yz M y u ab a9 aa
 go_region_held3 (fun w'=>w'.cell? ⟨n,0,K⟩=O (.pointer (O ⟨i.x,0,K⟩))/\w'.cell? ⟨w.1.size,2,K⟩=O (I J o.a)) (first|go_keep|exact⟨(KK (by assumption) (by assumption) _ _ _ _ _ _ _ _ _ _ _).trans (by assumption),(KK (by assumption) (by assumption) _ _ _ _ _ _ _ _ _ _ _).trans (by assumption)⟩) (first
  |(go_at_call 16;(with_reducible refine(ud U).mono ?_);rintro e V ⟨jb,r,m',rfl,hm,f,ha⟩;have h:zk (zU i) (X.alloc (.cells #[I J 0,I J 0,I J 0,I J 0,I J 0,I J 0,I J 0,I J 0,I J 0,I J 0,I J 0] 51)) V:=⟨f.os,f.tape,f.output,f.size,f.block⟩;clear f;have P:=ze ha;have v0:=(zr (i:=0) h a5 q).trans (ud a0);have v2:=(zr (i:=2) h a2 j).trans (ud a1);have a4:n<V.1.size:=A q h.size;have a6:w.1.size<V.1.size:=A j h.size;have L:=h.heap (ud Z3) a3;obtain⟨j0,j1,j2,j3,j4,j5,j6,j7,j8,j9,a8⟩:=z11 L;have jf:=(fun i=>zD L i);have W:=ze (CPk.ahead (jb:=jb) (ud F) (ud D) (ud YZ) (ud Y2) h hm);clear hm h ha L)
  |(go_at_call 16;(with_reducible refine(ud T).mono ?_);rintro e V ⟨jb,r,m',rfl,hm,f,ha⟩;have h:zk (zU i) X V:=⟨f.os,f.tape,f.output,f.size,f.block⟩;clear f;have P:=ze ha;have v0:=(zr (i:=0) h a5 B).trans z0;have v2:=(zr (i:=2) h a2 C).trans z2;have a4:n<V.1.size:=A B h.size;have a6:w.1.size<V.1.size:=A C h.size;have ad:¬n=V.1.size:=(by have:=h.size;omega);have af:¬w.1.size=V.1.size:=(by have:=h.size;omega);have Z:=ze (CPk.behind (jb:=jb) (ud F) (ud D) (ud YZ) (ud Y2) h hm);clear hm h ha))
 all_goals(first
  |(have l:=ud W;clear W j0 j1 j2 j3 j4 j5 j6 j7 j8 j9 a8 jf;generalize((((((((((((V.setCell ⟨X.1.size,0,K⟩ (I J jb.kind)).setCell ⟨X.1.size,1,K⟩ (I J jb.s.t)).setCell ⟨X.1.size,2,K⟩ (I J jb.s.se)).setCell ⟨X.1.size,3,K⟩ (I J jb.s.we)).setCell ⟨X.1.size,4,K⟩ (I J jb.si)).setCell ⟨X.1.size,5,K⟩ (I J jb.tc)).setCell ⟨X.1.size,6,K⟩ (I J jb.rest)).setCell ⟨X.1.size,7,K⟩ (I J jb.ep)).setCell ⟨X.1.size,8,K⟩ (I J jb.num)).setCell ⟨X.1.size,9,K⟩ (I J jb.slot)).setCell ⟨X.1.size,10,K⟩ (I J jb.till)))=Y at l ⊢;generalize X.1.size=z at l ⊢)
  |(have l:=ud Z;clear Z ad af;generalize(V.alloc (.cells #[I J jb.kind,I J jb.s.t,I J jb.s.se,I J jb.s.we,I J jb.si,I J jb.tc,I J jb.rest,I J jb.ep,I J jb.num,I J jb.slot,I J jb.till] 51))=Y at l ⊢;generalize V.1.size=z at l ⊢))
 all_goals
  clear v0 v2 a4 a6 z0 z2 B C Y2 D YZ Z3 a0 a1 T U q j a7 a3 ae ag
  obtain⟨q0,q1,q2,q3,q4,q5,q6,q7,q8,q9,ak⟩:=z11 l.job
  obtain⟨j0,j1,j2,j3,j4,j5,j6,j7,j8,j9,a8⟩:=z11 l.res
  have jf:=fun i=>zD l.res i
  have aj:=zd l.job
  have ai:=zd l.res
  have ah:¬w.1.size+2=z:=by have:=l.low;omega
  have G:=ze l
  clear l
  go_wp2_with fail
  refine xH 3 (by kernel_rfl) (by kernel_rfl) ?_
  simp only[List.take_succ_cons,List.take_zero,List.drop_succ_cons,List.drop_zero]
  iterate 2 still_step
  still_call (ZE _ _)
  refine wpStill_nil ?_
  go_wp2_with fail
  rw[show w.1.size+1+1=w.1.size+2 from rfl]
  have hf:((((((((((((Y.setCell ⟨w.1.size+2,0,K⟩ (I J jb.kind)).setCell ⟨w.1.size+2,1,K⟩ (I J jb.s.t)).setCell ⟨w.1.size+2,2,K⟩ (I J jb.s.se)).setCell ⟨w.1.size+2,3,K⟩ (I J jb.s.we)).setCell ⟨w.1.size+2,4,K⟩ (I J jb.si)).setCell ⟨w.1.size+2,5,K⟩ (I J jb.tc)).setCell ⟨w.1.size+2,6,K⟩ (I J jb.rest)).setCell ⟨w.1.size+2,7,K⟩ (I J jb.ep)).setCell ⟨w.1.size+2,8,K⟩ (I J jb.num)).setCell ⟨w.1.size+2,9,K⟩ (I J jb.slot)).setCell ⟨w.1.size+2,10,K⟩ (I J jb.till))).drew.1[w.1.size+2]?=O (.cells #[I J jb.kind,I J jb.s.t,I J jb.s.se,I J jb.s.we,I J jb.si,I J jb.tc,I J jb.rest,I J jb.ep,I J jb.num,I J jb.slot,I J jb.till] 51 (0,0)):=(zeW _ _).trans (kH (ud G).res (I J jb.kind) (I J jb.s.t) (I J jb.s.se) (I J jb.s.we) (I J jb.si) (I J jb.tc) (I J jb.rest) (I J jb.ep) (I J jb.num) (I J jb.slot) (I J jb.till))
  have H:zk (fun k=>k=w.1.size+2) Y ((((((((((((Y.setCell ⟨w.1.size+2,0,K⟩ (I J jb.kind)).setCell ⟨w.1.size+2,1,K⟩ (I J jb.s.t)).setCell ⟨w.1.size+2,2,K⟩ (I J jb.s.se)).setCell ⟨w.1.size+2,3,K⟩ (I J jb.s.we)).setCell ⟨w.1.size+2,4,K⟩ (I J jb.si)).setCell ⟨w.1.size+2,5,K⟩ (I J jb.tc)).setCell ⟨w.1.size+2,6,K⟩ (I J jb.rest)).setCell ⟨w.1.size+2,7,K⟩ (I J jb.ep)).setCell ⟨w.1.size+2,8,K⟩ (I J jb.num)).setCell ⟨w.1.size+2,9,K⟩ (I J jb.slot)).setCell ⟨w.1.size+2,10,K⟩ (I J jb.till))).drew:=(qH (w:=Y) (g:=w.1.size+2) (I J jb.kind) (I J jb.s.t) (I J jb.s.se) (I J jb.s.we) (I J jb.si) (I J jb.tc) (I J jb.rest) (I J jb.ep) (I J jb.num) (I J jb.slot) (I J jb.till)).drew
  generalize((((((((((((Y.setCell ⟨w.1.size+2,0,K⟩ (I J jb.kind)).setCell ⟨w.1.size+2,1,K⟩ (I J jb.s.t)).setCell ⟨w.1.size+2,2,K⟩ (I J jb.s.se)).setCell ⟨w.1.size+2,3,K⟩ (I J jb.s.we)).setCell ⟨w.1.size+2,4,K⟩ (I J jb.si)).setCell ⟨w.1.size+2,5,K⟩ (I J jb.tc)).setCell ⟨w.1.size+2,6,K⟩ (I J jb.rest)).setCell ⟨w.1.size+2,7,K⟩ (I J jb.ep)).setCell ⟨w.1.size+2,8,K⟩ (I J jb.num)).setCell ⟨w.1.size+2,9,K⟩ (I J jb.slot)).setCell ⟨w.1.size+2,10,K⟩ (I J jb.till))).drew=Zf at hf H ⊢
  refine bodyPost_ret (v:=.tuple #[tkA jb,I J r]) (zj results103 _ _ (w.1.size+2) _ _ _ _ _ rfl rfl hf underlying51 rfl (by kernel_rfl)) rfl ?_
  exact⟨jb,r,m',rfl,(ud G).mill.kept H (fun k h e=>by have:=ud F k h;omega),(ud G).kept.trans H (fun i hi e=>by omega),ud P⟩
end Go.Proofs.YtpbimdkclnekeaaGreat
