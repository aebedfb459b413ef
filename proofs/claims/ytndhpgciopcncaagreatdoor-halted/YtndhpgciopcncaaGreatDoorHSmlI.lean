import Derived.Test.YtndhpgciopcncaaGreatDoorHStp1
import Derived.Test.YtndhpgciopcncaaGreatDoorHKop0
import Derived.Deep.RegionHeld3
open Option renaming some → J
set_option linter.unusedVariables false
namespace Go.Proofs.YtndhpgciopcncaaGreatDoor
open Go.RowKit Go.Maps Go.Shelf
variable {a b e ep kd n rest se slot ti tm v:Int} {TL':List (Jk×Tsk)} {g:Lse} {B j k:Nat} {s:Sg} {t:Tok} {x:Tsk} {V w:World}
section
variable {c:Cf} {ep:Int} {m:MS} {r:RM}
theorem Xm.more(h:Xm c m){d:List (Jk×Tsk)}{Q':List (Tok×Lse)}{n':Int}(e:∀k,k∈zk m.TL->k∈zk d):Xm c {m with num:=n',TL:=d,QL:=Q'}:=by
 obtain⟨Bs,i,f,g⟩:=h;exact⟨Bs,i,fun s b a=>e _ (f s b a),fun s b a=>e _ (g s b a)⟩
theorem qV.pick_busy(h:qV c ep m r)(a:0<=slot/\slot<c.s)(b:m.QL.any (fun p=>p.2.slot==slot)=true):r.pick slot=(r,zpu,6):=by
 unfold RM.pick;rw[if_neg (by rw[h.tie.hc];omega),if_pos (by rw[YV h.sok.ok h.tsk slot a.1];exact b)]
theorem qV.pick_idle(h:qV c ep m r)(a:0<=slot/\slot<c.s)(b:m.QL.any (fun p=>p.2.slot==slot)=false)(d:∀p∈m.TL,kn m.QL m.now p.2=false):r.pick slot=(r,zpu,7):=by
 unfold RM.pick;rw[if_neg (by rw[h.tie.hc];omega),if_neg (by rw[YV h.sok.ok h.tsk slot a.1,b];decide),Go.Proofs.YtndhpgciopcncaaGreatDoor.pick_idle h.tsk h.tie.now h.slot d]
theorem QU{QL:List (Tok×Lse)}{v:Lse}(a:t∉zk QL)(q:Tok×Lse):q∈qj QL t v↔q=(t,v)\/q∈QL:=by
 unfold qj;rw[if_neg a,List.mem_append,List.mem_singleton];exact or_comm
theorem qV.pick(h:qV c ep m r)(f:0<=slot/\slot<c.s)(x:m.QL.any (fun p=>p.2.slot==slot)=false){p:Jk×Tsk}(o:p∈m.TL)(i:kn m.QL m.now p.2=true)(z:VA c m.now (kW (zV m.L) c.qu) m.QL m.TL p.2):
  (r.pick slot).2.2=0/\(r.pick slot).2.1=⟨p.2.kd,p.2.s,p.2.se,p.2.ti,p.2.rest,ep,m.num+1,slot,m.now+c.le⟩/\qV c ep {m with num:=m.num+1,QL:=qj m.QL ⟨ep,m.num+1⟩ ⟨p.2.kd,p.2.s,slot,m.now+c.le⟩} (r.pick slot).1:=by
 obtain⟨j,y,v⟩:=ziW h.sok.ok h.tie.hc h.tsk h.tie.now h.tight h.slot o i z;have w:r.pick slot=({r with picks:=r.picks+1,td:=r.td.modify j (Tk.leased ep (m.num+1) slot (m.now+c.le))},Tk.leased ep (m.num+1) slot (m.now+c.le) (kh m.QL p.2),0):=by
  unfold RM.pick;rw[if_neg (by rw[h.tie.hc];omega),if_neg (by rw[YV h.sok.ok h.tsk slot f.1,x];decide),y];simp only[v,Option.getD_some,h.picks,h.epo,h.tie.now,h.tie.hc]
 rw[w];obtain⟨A,g⟩:=VQ i;have u:XK c ep m r.nu {m with num:=m.num+1,QL:=qj m.QL ⟨ep,m.num+1⟩ ⟨p.2.kd,p.2.s,slot,m.now+c.le⟩} r.nu:=.taken m r.nu p slot o i;have d:=u.ok h.ok h.fits h.sok;have b:(⟨ep,m.num+1⟩:Tok)∉zk m.QL:=fun l=>by
  obtain⟨q,a,e⟩:=List.mem_map.1 (show(⟨ep,m.num+1⟩:Tok)∈m.QL.map (·.1)from l);have:=(h.sok.ok.leas q a).num.2;rw[e]at this;dsimp only at this;omega
 have n:∀q∈m.QL,q.2.job≠p.2.key:=fun q a e=>by
  unfold kr at g;rw[List.any_eq_false]at g;exact g q a (decide_eq_true (show(⟨q.2.kd,q.2.s⟩:Jk)=p.2.key from e))
 refine⟨rfl,rfl,⟨h.ok,h.fits,d,⟨h.tie.hc,h.tie.now,h.tie.gone,h.tie.pub,h.tie.inv.act h.ok h.fits h.sok (by have:=h.len;omega) u⟩,?_,fun q a=>?_,?_,h.epo,h.ghas,h.ng,h.np,h.full,h.comp.more (fun k l=>l)⟩⟩
 ·exact xG.taken (t:=⟨ep,m.num+1⟩) h.sok.ok h.tsk d.ok.jobs o n (fun q=>QU b q) v
 ·rcases(QU b q).1 a with rfl|a
  ·exact f.1
  ·exact h.slot q a
 ·show r.picks+1=m.num+1;rw[h.picks]
theorem qV.fail_no(h:qV c ep m r)(a:zE m.QL ⟨e,n⟩=none):r.fail e n=(r,8):=by
 unfold RM.fail;rw[VL h.sok.ok h.tsk h.slot e n a]
theorem qV.commit_no(h:qV c ep m r)(a:zE m.QL ⟨e,n⟩=none):r.commit e n=(r,8):=by
 unfold RM.commit;rw[VL h.sok.ok h.tsk h.slot e n a]
theorem qV.fail(h:qV c ep m r)(b:zE m.QL ⟨e,n⟩=J g)(d:zE m.TL g.job=J x):(r.fail e n).2=0/\qV c ep {m with TL:=qj m.TL g.job (x.failed m.now),QL:=zT m.QL ⟨e,n⟩} (r.fail e n).1:=by
 obtain⟨f,i,j⟩:=zhV h.sok.ok h.tsk h.tie.now h.slot e n b d;refine⟨f,?_⟩;have a:XK c ep m r.nu {m with TL:=qj m.TL g.job (x.failed m.now),QL:=zT m.QL ⟨e,n⟩} r.nu:=.failed m r.nu ⟨e,n⟩ g x b d;rw[i];refine⟨h.ok,h.fits,a.ok h.ok h.fits h.sok,⟨h.tie.hc,h.tie.now,h.tie.gone,h.tie.pub,h.tie.inv.act h.ok h.fits h.sok (by have:=h.len;omega) a⟩,j,fun q o=>h.slot q (zS.1 o).1,h.picks,h.epo,h.ghas,h.ng,h.np,h.full,h.comp.more (fun k l=>zZ.2 (.inl l))⟩
end
theorem zqb{a b:Nat}(d:a=b+2)(c:a<=j)(e:foot (b+1) (.slice none 0 0) j):False:=by
 rcases e with e|e
 ·omega
 ·cases e
theorem zen{α β:Type}{f g:β->α->β}:∀(l:List α) (b:β),(∀b a,a∈l->f b a=g b a)->l.foldl f b=l.foldl g b
 |[],b,_=>rfl
 |a::l,b,h=>by
  rw[List.foldl_cons,List.foldl_cons,h b a (by simp)];exact zen l _ (fun b x c=>h b x (by simp[c]))
theorem Z8(kind:Int)(s:Sg)(P:Tk->Bool):∀(l:List Tk) (t:Tk),(∀x∈l,P x=false->¬(x.kind=kind/\x.s=s))->(l.filter P).foldl (kV kind s) t=l.foldl (kV kind s) t
 |[],t,_=>rfl
 |x::l,t,h=>by
  have a:=fun t=>Z8 kind s P l t (fun y c=>h y (by simp[c]));rw[List.filter_cons,List.foldl_cons];cases b:P x with
  |true=>rw[if_pos rfl,List.foldl_cons];exact a _
  |false=>
   rw[if_neg (by decide),a];have e:kV kind s t x=t:=(by unfold kV;rw[if_neg (h x (by simp) b)]);rw[e]
theorem Y9(r:RM)(kd:Int)(s:Sg)(e:vD r kd s (xd r.c r.nu)=false):{r with td:=r.td.filter (fun t=>!decide (t.kind=kd/\t.s=s))}.settled.td=r.settled.td:=by
 show ZW {r with td:=r.td.filter (fun t=>!decide (t.kind=kd/\t.s=s))} (xd r.c r.nu) (xd r.c r.nu).length=ZW r (xd r.c r.nu) (xd r.c r.nu).length;unfold ZW;refine zen _ _ (fun out s' j=>?_);have b:∀(kind:Int) (o:List Tk),jq {r with td:=r.td.filter (fun t=>!decide (t.kind=kd/\t.s=s))} (xd r.c r.nu) kind o s'=jq r (xd r.c r.nu) kind o s':=fun kind o=>by
  unfold jq;have f:vD {r with td:=r.td.filter (fun t=>!decide (t.kind=kd/\t.s=s))} kind s' (xd r.c r.nu)=vD r kind s' (xd r.c r.nu):=rfl;rw[f];by_cases a:vD r kind s' (xd r.c r.nu)=true
  ·rw[if_pos a,if_pos a];have g:yH {r with td:=r.td.filter (fun t=>!decide (t.kind=kd/\t.s=s))} kind s'=yH r kind s':=by
    unfold yH;refine Z8 kind s' _ r.td _ (fun x k d=>?_);simp only[Bool.not_eq_false',decide_eq_true_eq]at d;rintro⟨h,i⟩;rw[<-h,<-i,d.1,d.2,e]at a;cases a
   rw[g]
  ·rw[if_neg a,if_neg a]
 rw[b,b]
section
variable {c:Cf} {ep:Int} {m:MS} {r:RM}
theorem xG.dropped{l:List Tk}(i:MOk c ep m)(h:xG m.TL m.QL l)(w:zE m.QL t=J g)(E:zE m.TL g.job=J x):xG (zT m.TL g.job) (zT m.QL t) (l.filter (fun k=>!decide (k.kind=x.kd/\k.s=x.s))):=by
 obtain⟨ts,v,D,rfl⟩:=h;have f:g.job=x.key:=(i.td _ (zA E)).key;have A:=zA w;have d:∀z:Tsk,(z.kd=x.kd/\z.s=x.s)↔z.key=x.key:=fun z=>by
  unfold Tsk.key;constructor
  ·rintro⟨a,b⟩;rw[a,b]
  ·intro e;injection e with a b;exact⟨a,b⟩
 refine⟨ts.filter (fun z=>!decide (z.kd=x.kd/\z.s=x.s)),?_,D.filter _,?_⟩
 ·have e:(zT m.TL g.job).map (·.2)=(m.TL.map (·.2)).filter (fun z=>!decide (z.kd=x.kd/\z.s=x.s)):=by
   unfold zT;rw[List.filter_map];refine congrArg (List.map _) (List.filter_congr (fun p C=>?_));have j:=(i.td p C).key;dsimp only[Function.comp];rw[f];by_cases e:p.1=x.key
   ·have r:p.2.kd=x.kd/\p.2.s=x.s:=(d p.2).2 (by rw[<-j];exact e);simp[e,r]
   ·have r:¬(p.2.kd=x.kd/\p.2.s=x.s):=fun h=>e (by rw[j];exact(d p.2).1 h);simp only[e,r,decide_false,Bool.not_false,ne_eq,not_false_eq_true,decide_true]
  rw[e];exact v.filter _
 ·rw[List.filter_map];have y:((fun k:Tk=>!decide (k.kind=x.kd/\k.s=x.s))∘kh m.QL)=fun z=>!decide (z.kd=x.kd/\z.s=x.s):=rfl;rw[y];refine List.map_congr_left (fun z F=>?_);have u:z.key≠x.key:=fun e=>by
   have:=(List.mem_filter.1 F).2;rw[decide_eq_true ((d z).2 e)]at this;cases this
  refine jM (Qx i.jobs (ZQ i.jobs t) (fun q B=>?_));rw[zS];constructor
  ·refine fun o=>⟨o,fun e=>u ?_⟩;have n:zE m.QL q.1=J q.2:=xt i.nq o;rw[e,w]at n;injection n with n;rw[<-B,<-n,f]
  ·exact fun o=>o.1
theorem qV.roll(h:qV c ep m r)(w:zE m.QL ⟨e,n⟩=J g)(p:zE m.TL g.job=J ⟨true,s,se,ti,rest⟩)(G:s.t=k)(B:xB c {m with L:=qS m.L s ⟨3,xx (xe c m.L s.sr s.wn k)⟩,Gl:=m.Gl,TL:=zT m.TL g.job,QL:=zT m.QL ⟨e,n⟩} TL'):
  (r.commit e n).2=0/\qV c ep {m with L:=qS m.L s ⟨3,xx (xe c m.L s.sr s.wn k)⟩,Gl:=m.Gl,TL:=TL',QL:=zT m.QL ⟨e,n⟩} (r.commit e n).1:=by
 obtain⟨j,K,M⟩:=QA h.sok.ok h.tsk h.slot e n w p;have N:r.commit e n=({r with pub:=r.pub++[s]}.settled,0):=by
  unfold RM.commit;rw[K];simp only[M,Option.getD_some];unfold RM.done;rw[if_pos (show(kh m.QL ⟨true,s,se,ti,rest⟩).kind=1 from rfl)];rfl
 rw[N];refine⟨rfl,?_⟩;have o:=h.sok.ok;have H:=o.td _ (zA p);have f:s∈zn m.L:=H.mem;have C:(stL m.L s).st=2:=H.roll rfl;have z:=(o.rolled w p rfl (xx (xe c m.L s.sr s.wn k))).1;have x:=h.tie.inv.rolled h.ok h.fits o (by have:=h.len;omega) p G (zT m.QL ⟨e,n⟩);have l:¬s∈r.pub:=fun P=>by
  rcases h.inPub.1 P with⟨v,hv,d⟩|⟨-,d⟩
  ·rw[jV o.seg.nl (zW f) hv]at C;omega
  ·exact o.seg.disj _ (zW f) d
 have i:∀s',QC s' (r.pub++[s])=true↔Pub (qS m.L s ⟨3,xx (xe c m.L s.sr s.wn k)⟩) s'\/(0<=s'.t/\s'∈zk m.Gl):=fun s'=>by
  have:QC s' (r.pub++[s])=true↔s'∈r.pub\/s'=s:=by unfold QC;simp
  rw[this,h.inPub];constructor
  ·rintro((⟨v,hv,d⟩|d)|rfl)
   ·by_cases e:s'=s
    ·rw[e];exact .inl ⟨_,zai,rfl⟩
    ·exact .inl ⟨v,zaj hv e,d⟩
   ·exact .inr d
   ·exact .inl ⟨_,zai,rfl⟩
  ·rintro(⟨v,hv,d⟩|d)
   ·rcases qv hv with e|⟨hv,-⟩
    ·injection e with I Q;exact .inr I
    ·exact .inl (.inl ⟨v,hv,d⟩)
   ·exact .inl (.inr d)
 have D:zdV c {m with L:=qS m.L s ⟨3,xx (xe c m.L s.sr s.wn k)⟩,Gl:=m.Gl,TL:=zT m.TL g.job,QL:=zT m.QL ⟨e,n⟩} {r with pub:=r.pub++[s],td:=r.td.filter (fun t=>!decide (t.kind=(1:Int)/\t.s=s))}:=⟨h.tie.hc,h.tie.now,h.tie.gone,i,x⟩;have y:xG (zT m.TL g.job) (zT m.QL ⟨e,n⟩) (r.td.filter (fun t=>!decide (t.kind=(1:Int)/\t.s=s))):=h.tsk.dropped o w p;have u:=ZX h.ok h.fits z D y B;rw[show({r with pub:=r.pub++[s],td:=r.td.filter (fun t=>!decide (t.kind=(1:Int)/\t.s=s))}:RM).settled.td=({r with pub:=r.pub++[s]}:RM).settled.td from Y9 {r with pub:=r.pub++[s]} 1 s (by
  unfold vD;rw[if_pos rfl];unfold KL JJ;have:QC s ({r with pub:=r.pub++[s]}:RM).pub=true:=zbF (by simp);rw[this];simp)]at u
 have E:XK c ep m r.nu {m with L:=qS m.L s ⟨3,xx (xe c m.L s.sr s.wn k)⟩,Gl:=m.Gl,TL:=TL',QL:=zT m.QL ⟨e,n⟩} r.nu:=.rolled m r.nu ⟨e,n⟩ g s se ti rest k TL' w p G B;refine⟨h.ok,h.fits,E.ok h.ok h.fits h.sok,⟨h.tie.hc,h.tie.now,h.tie.gone,i,h.tie.inv.act h.ok h.fits h.sok (by have:=h.len;omega) E⟩,u,fun q O=>h.slot q (zS.1 O).1,h.picks,h.epo,h.ghas,h.ng,?_,h.full,Xm.of B⟩;show(r.pub++[s]).Nodup;rw[List.nodup_append];exact⟨h.np,by simp,fun a A b F e=>by simp at F;subst F;subst e;exact l A⟩
theorem qV.reclaim(h:qV c ep m r)(x:zE m.QL ⟨e,n⟩=J g)(p:zE m.TL g.job=J ⟨false,s,se,ti,rest⟩)(F:xB c {m with L:=zT m.L s,Gl:=qj m.Gl s (),TL:=zT m.TL g.job,QL:=zT m.QL ⟨e,n⟩} TL'):
  (r.commit e n).2=0/\qV c ep {m with L:=zT m.L s,Gl:=qj m.Gl s (),TL:=TL',QL:=zT m.QL ⟨e,n⟩} (r.commit e n).1:=by
 obtain⟨j,N,O⟩:=QA h.sok.ok h.tsk h.slot e n x p;have P:r.commit e n=({r with gone:=r.gone++[s]}.settled,0):=by
  unfold RM.commit;rw[N];simp only[O,Option.getD_some];unfold RM.done;rw[if_neg (by show¬((2:Int)=1);decide)];rfl
 rw[P];refine⟨rfl,?_⟩;have k:=h.sok.ok;have M:=k.td _ (zA p);have d:s∈zn m.L:=M.mem;have G:(stL m.L s).st≠2:=M.recl rfl;have D:=(k.reclaimed x p rfl).1;have A:=h.tie.inv.reclaimed h.ok h.fits k p (zT m.QL ⟨e,n⟩);have z:¬s∈r.gone:=fun R=>k.seg.disj _ (zW d) (h.inGl.1 R);have f:∀s',QC s' (r.gone++[s])=true↔s'∈zk (qj m.Gl s ()):=fun s'=>by
  have:QC s' (r.gone++[s])=true↔s'∈r.gone\/s'=s:=by unfold QC;simp
  rw[this,h.inGl,zZ]
 have l:∀s',QC s' r.pub=true↔Pub (zT m.L s) s'\/(0<=s'.t/\s'∈zk (qj m.Gl s ())):=fun s'=>by
  rw[h.tie.pub,zZ];constructor
  ·rintro(⟨v,hv,i⟩|⟨i,u⟩)
   ·by_cases e:s'=s
    ·refine .inr ⟨?_,.inr e⟩;have B:=k.seg.inr _ hv;by_cases S:s'.t= -1
     ·have:=(k.seg.raw _ hv S).1;dsimp only at this;omega
     ·have:=B.2.1;dsimp only at this;omega
    ·exact .inl ⟨v,zS.2 ⟨hv,e⟩,i⟩
   ·exact .inr ⟨i,.inl u⟩
  ·rintro(⟨v,hv,i⟩|⟨i,u|u⟩)
   ·exact .inl ⟨v,(zS.1 hv).1,i⟩
   ·exact .inr ⟨i,u⟩
   ·left;rw[u]at i ⊢;rcases k.seg.tier _ (zW d) i with y|y
    ·exact absurd y G
    ·exact⟨_,zW d,y⟩
 have H:zdV c {m with L:=zT m.L s,Gl:=qj m.Gl s (),TL:=zT m.TL g.job,QL:=zT m.QL ⟨e,n⟩} {r with gone:=r.gone++[s],td:=r.td.filter (fun t=>!decide (t.kind=(2:Int)/\t.s=s))}:=⟨h.tie.hc,h.tie.now,f,l,A⟩;have C:xG (zT m.TL g.job) (zT m.QL ⟨e,n⟩) (r.td.filter (fun t=>!decide (t.kind=(2:Int)/\t.s=s))):=h.tsk.dropped k x p;have w:=ZX h.ok h.fits D H C F;rw[show({r with gone:=r.gone++[s],td:=r.td.filter (fun t=>!decide (t.kind=(2:Int)/\t.s=s))}:RM).settled.td=({r with gone:=r.gone++[s]}:RM).settled.td from Y9 {r with gone:=r.gone++[s]} 2 s (by
  unfold vD;rw[if_neg (by decide)];unfold KM Xt;have:QC s ({r with gone:=r.gone++[s]}:RM).gone=true:=zbF (by simp);rw[this];simp)]at w
 have I:XK c ep m r.nu {m with L:=zT m.L s,Gl:=qj m.Gl s (),TL:=TL',QL:=zT m.QL ⟨e,n⟩} r.nu:=.reclaimed m r.nu ⟨e,n⟩ g s se ti rest TL' x p F;refine⟨h.ok,h.fits,I.ok h.ok h.fits h.sok,⟨h.tie.hc,h.tie.now,f,l,h.tie.inv.act h.ok h.fits h.sok (by have:=h.len;omega) I⟩,w,fun q Q=>h.slot q (zS.1 Q).1,h.picks,h.epo,fun s' o=>?_,?_,h.np,h.full,Xm.of F⟩
 ·rcases zZ.1 o with o|rfl
  ·exact h.ghas s' o
  ·exact h.tie.inv.has _ d
 ·show(r.gone++[s]).Nodup;rw[List.nodup_append];exact⟨h.ng,by simp,fun a E b K e=>by simp at K;subst K;subst e;exact z E⟩
theorem qV.new(a:c.ok)(b:c.fits):qV c ep ⟨0,[],[],0,[],[]⟩ ⟨c,0,[],[],[],[],ep,0⟩:=by
 refine⟨a,b,SOk.new a,⟨rfl,rfl,fun s=>by simp[QC,zk],fun s=>by simp[QC,zk,Pub],X6.start c 0⟩,⟨[],by simp,by simp,rfl⟩,by simp,rfl,rfl,by simp[zk],by simp,by simp,fun T=>by simp[yj],⟨[],fun x=>by simp[zk,zn],by simp[zn],by simp[zn]⟩⟩
end
def XL(c:Cf)(ep:Int)(f:RM->RM)(m m':MS):Prop:=∀r,qV c ep m r->qV c ep m' (f r)
noncomputable def Yn (c:Cf) (now b:Int):Int:=if now-pkV b (c.la+1)<0 then 0 else now-pkV b (c.la+1)
noncomputable def zof (c:Cf) (a b v:Int) (r:RM):RM:=(r.ingest (pkV a 4) (Yn c r.now b) v).1
def zcu(n:Int)(r:RM):RM:=(r.tickL n).1
def Qi(slot:Int)(r:RM):RM:=(r.pick slot).1
def zgO(kd ep n:Int)(r:RM):RM:=if kd=5 then(r.fail ep n).1 else(r.commit ep n).1
noncomputable def Yl (ep kd a:Int) (r:RM):RM:=if r.picks=0 then r else zgO kd ep (r.picks-pkV a r.picks) r
noncomputable def zfq (c:Cf) (ep a:Int) (r:RM):RM:=if(Qi (pkV a c.s) r).picks=r.picks then Qi (pkV a c.s) r else Yl ep 4 0 (Qi (pkV a c.s) r)
noncomputable def zfL (c:Cf) (ep kd a b v:Int) (r:RM):RM:=
 if kd=1 then zof c a b v r else if kd=2 then zcu (1+pkV a 1000) r else if kd=3 then Qi (pkV a c.s) r else if kd=4\/kd=5 then Yl ep kd a r else if kd=6 then zfq c ep a r else r
section
variable {c:Cf} {ep:Int} {m m' m2:MS}
theorem zno(d:Yn c m.now b=tm)(f:0<=pkV a 4/\pkV a 4<4)(g:0<=tm/\tm<=m.now)(i:m.now-c.la<=tm)(hv: -2147483648<=v/\v<=2147483647)(j:zV m.L+(1+2*yn c m.L ⟨pkV a 4,tm,v⟩ c.n)<=c.qu):XL c ep (zof c a b v) m {m with L:=yv c m.L ⟨pkV a 4,tm,v⟩}:=fun r h=>by
 have e:=(h.ingest (pkV a 4) tm v hv).2;rw[show qM c m (pkV a 4) tm v=({m with L:=yv c m.L ⟨pkV a 4,tm,v⟩},0)from by unfold qM;rw[if_neg (by omega),if_neg (by omega),if_neg (by omega),if_neg (by omega)]]at e
 unfold zof;rw[h.tie.now,d];exact e
theorem zhe(d:Yn c m.now b=tm)(g:0<=pkV a 4/\pkV a 4<4)(i:0<=tm/\tm<=m.now)(j:m.now-c.la<=tm)(hv: -2147483648<=v/\v<=2147483647)(f:c.qu<zV m.L+(1+2*yn c m.L ⟨pkV a 4,tm,v⟩ c.n)):XL c ep (zof c a b v) m m:=fun r h=>by
 have e:=(h.ingest (pkV a 4) tm v hv).2;rw[show qM c m (pkV a 4) tm v=(m,4)from by unfold qM;rw[if_neg (by omega),if_neg (by omega),if_neg (by omega),if_pos f]]at e
 unfold zof;rw[h.tie.now,d];exact e
theorem zhf(a:100000<m.now+n):XL c ep (zcu n) m m:=fun r h=>by
 unfold zcu;rw[h.tick_bad (.inr (.inr a))];exact h
theorem zaN(hn:1<=n/\n<=1000)(d:m.now+n<=100000){b:List (Jk×Tsk)}{a:List (Tok×Lse)}(e:YQ (m.now+n) m.TL m.QL b a)(g:∀p∈a,m.now+n<p.2.til)(f:xB c {m with now:=m.now+n,TL:=b,QL:=a} TL'):XL c ep (zcu n) m {m with now:=m.now+n,TL:=TL',QL:=a}:=fun r h=>(h.tick hn d e g f).2
theorem znn(a:zE m.QL ⟨ep,n⟩=none):XL c ep (zgO kd ep n) m m:=fun r h=>by
 unfold zgO;split
 ·rw[h.fail_no a];exact h
 ·rw[h.commit_no a];exact h
theorem zhd(a:kd=5)(b:zE m.QL ⟨ep,n⟩=J g)(d:zE m.TL g.job=J x):XL c ep (zgO kd ep n) m {m with TL:=qj m.TL g.job (x.failed m.now),QL:=zT m.QL ⟨ep,n⟩}:=fun r h=>by
 unfold zgO;rw[if_pos a];exact(h.fail b d).2
theorem zhh(a:¬kd=5)(b:zE m.QL ⟨ep,n⟩=J g)(f:zE m.TL g.job=J ⟨true,s,se,ti,rest⟩)(d:s.t=k)(e:xB c {m with L:=qS m.L s ⟨3,xx (xe c m.L s.sr s.wn k)⟩,Gl:=m.Gl,TL:=zT m.TL g.job,QL:=zT m.QL ⟨ep,n⟩} TL'):XL c ep (zgO kd ep n) m {m with L:=qS m.L s ⟨3,xx (xe c m.L s.sr s.wn k)⟩,Gl:=m.Gl,TL:=TL',QL:=zT m.QL ⟨ep,n⟩}:=fun r h=>by
 unfold zgO;rw[if_neg a];exact(h.roll b f d e).2
theorem zhg(a:¬kd=5)(b:zE m.QL ⟨ep,n⟩=J g)(e:zE m.TL g.job=J ⟨false,s,se,ti,rest⟩)(d:xB c {m with L:=zT m.L s,Gl:=qj m.Gl s (),TL:=zT m.TL g.job,QL:=zT m.QL ⟨ep,n⟩} TL'):XL c ep (zgO kd ep n) m {m with L:=zT m.L s,Gl:=qj m.Gl s (),TL:=TL',QL:=zT m.QL ⟨ep,n⟩}:=fun r h=>by
 unfold zgO;rw[if_neg a];exact(h.reclaim b e d).2
theorem zhc{i:Nat}(e:m.num=k)(f:¬k=0)(g:(k:Int)-1-pkV a k=i)(h:XL c ep (zgO kd ep ((i:Int)+1)) m m'):XL c ep (Yl ep kd a) m m':=fun r b=>by
 have d:=h r b;unfold Yl;rw[b.picks,e,if_neg (by omega),show(k:Int)-pkV a k=(i:Int)+1 by omega];exact d
theorem zfi(d:m.num=(0:Nat)):XL c ep (Yl ep kd a) m m:=fun r b=>by
 unfold Yl;rw[b.picks,d,if_pos (by rfl)];exact b
theorem zfh(h:XL c ep (Qi (pkV a c.s)) m m')(hn:m'.num=m.num):XL c ep (zfq c ep a) m m':=fun r d=>by
 have b:=h r d;unfold zfq;rw[if_pos (by rw[b.picks,d.picks,hn])];exact b
theorem zaM(h:XL c ep (Qi (pkV a c.s)) m m')(hn:¬m'.num=m.num)(e:XL c ep (Yl ep 4 0) m' m2):XL c ep (zfq c ep a) m m2:=fun r d=>by
 have b:=h r d;unfold zfq;rw[if_neg (by rw[b.picks,d.picks];exact hn)];exact e _ b
end
noncomputable def zqd (c:Cf) (ep:Int) (G:Nat->Js):Nat->RM
 |0=>⟨c,0,[],[],[],[],ep,0⟩
 |t+1=>zfL c ep (G t).kd (G t).a (G t).b (G t).v (zqd c ep G t)
def zqa(C:Cf)(w:World)(e:Ending)(w':World):Prop:=∃(c:Cf) (p:Nat),c=C/\qd c.s c.le c.la c.wi c.ke c.qu c.n c.F c.W c.K=true/\c.fits/\e=.returned (O p)/\zgY w' w.1.size p c 1 ⟨0,[],[],0,[],[]⟩ [] 0/\Below w.1.size w w'
def zqp(ns:List Nm):Prop:=∀x∈ns,(0<=x.sr/\x.sr<4)/\0<=x.tm/\x.tm<=100000
theorem zqp.act{c:Cf}{m m':MS}{ns ns':List Nm}(h:zqp ns)(s:SOk c ep m k)(q:XK c ep m ns m' ns'):zqp ns':=by
 cases q with
 |added x l o v w z=>
  intro y a;rcases List.mem_append.1 a with a|a
  ·exact h y a
  ·rw[List.mem_singleton.1 a];have:=s.ok.now;exact⟨l,o.1,by omega⟩
 |same=>exact h
 |ticked n j TL' i hn e A C b=>exact h
 |taken p slot b r=>exact h
 |failed t g x d f=>exact h
 |rolled t g u se ti rest k TL' d f B b=>exact h
 |reclaimed t g u se ti rest TL' d f b=>exact h
theorem YG{g:Nat}{a b c d:Value}(h:¬k=g):((((V.setCell (U g 0) a).setCell (U g 1) b).setCell (U g 2) c).setCell (U g 3) d).cell? (U k j)=V.cell? (U k j):=(zu h).trans ((zu h).trans ((zu h).trans (zu h)))
theorem zcJ{g:Nat}(h:Below B w V)(e:B<=g)(a b c d:Value):Below B w ((((V.setCell (U g 0) a).setCell (U g 1) b).setCell (U g 2) c).setCell (U g 3) d):=(((h.setCell (p:=(U g 0)) e a).setCell (p:=(U g 1)) e b).setCell (p:=(U g 2)) e c).setCell (p:=(U g 3)) e d
theorem ziv:(Tryz.prog.info? 49).map (fun i=>(i.zero,i.size,i.bytes))=J (J (.agg #[I 0,I 0]),2,16):=by kernel_rfl
theorem ziu:(Tryz.prog.info? 3).map (fun i=>(i.zero,i.size,i.bytes))=J (J (I 0),1,8):=by kernel_rfl
theorem zmw{v:Value}(h:w.ownsRow B 49 2 v (Ze ep k).length ((Ze ep k).flatMap zdP)):w.ownsRow B 49 2 v k ((Ze ep k).flatMap zdP):=by rw[xP]at h;exact h
end Go.Proofs.YtndhpgciopcncaaGreatDoor
