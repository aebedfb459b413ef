import Derived.Test.YtpbimdkclnekeaaGreatVPck3
import Derived.Test.YtpbimdkclnekeaaGreatVZet5
open Go.Value renaming int → I
open Option renaming none → J
open Option renaming some → K
open Go.IntKind renaming i64 → O
open Go.IntKind renaming i32 → E
open Nat renaming le_refl → Q
open Nat renaming lt_of_lt_of_le → Y
set_option linter.unusedVariables false
set_option maxRecDepth 20000
set_option maxHeartbeats 8000000
open Go.Proofs.Tryz
namespace Go.Proofs.YtpbimdkclnekeaaGreat
open Go.ChangeMaps (setBlock)
open Go.RowKit Go.Maps Go.Shelf
def yO(QL:List (Tok×Lse))(x:Tsk):Tk:=⟨x.kd,x.s,x.si,x.tc,x.rest,(vN QL x).1.ep,(vN QL x).1.num,(vN QL x).2.1,(vN QL x).2.2⟩
theorem zlg(QL:List (Tok×Lse))(x:Tsk):TkT (yO QL x) x:=⟨rfl,rfl,rfl⟩
def zbv(k:Tk):Tsk:=⟨decide (k.kind=1),k.s,k.si,k.tc,k.rest⟩
theorem yY(QL:List (Tok×Lse))(x:Tsk):zbv (yO QL x)=x:=by
 obtain⟨rl,s,a,b,d⟩:=x
 unfold zbv yO
 cases rl<;>rfl
theorem zjU{QL:List (Tok×Lse)}(g:∀q∈QL,0<=q.2.slot)(x:Tsk):decide ((yO QL x).slot<0)=!kq QL x.key:=by
 show decide ((vN QL x).2.1<0)=_
 unfold vN kq
 cases c:QL.find? (fun p=>decide (p.2.job=x.key))with
 |none=>
  have b:QL.any (fun p=>decide ((⟨p.2.kd,p.2.s⟩:Jk)=x.key))=false:=by
   rw[List.any_eq_false]
   intro q a e
   have d:q.2.job=x.key:=of_decide_eq_true e
   exact List.find?_eq_none.1 c q a (decide_eq_true d)
  rw[b];rfl
 |some q=>
  have a:=List.mem_of_find?_eq_some c
  have f:=List.find?_some c
  have b:QL.any (fun p=>decide ((⟨p.2.kd,p.2.s⟩:Jk)=x.key))=true:=List.any_eq_true.2 ⟨q,a,decide_eq_true (show(⟨q.2.kd,q.2.s⟩:Jk)=x.key from of_decide_eq_true f)⟩
  rw[b]
  have:=g q a
  simpa using this
theorem Ve{r:RM}{QL:List (Tok×Lse)}(a:∀q∈QL,0<=q.2.slot)(x:Tsk):r.freeT (yO QL x)=kw QL r.now x:=by
 unfold RM.freeT kw
 rw[zjU a,Bool.and_comm]
 rfl
def xx(TL:List (Jk×Tsk))(QL:List (Tok×Lse))(l:List Tk):Prop:=∃ts:List Tsk,ts.Perm (TL.map (·.2))/\ts.Pairwise (fun a b=>¬qY b a<0)/\l=ts.map (yO QL)
theorem xx.mem{TL:List (Jk×Tsk)}{QL:List (Tok×Lse)}{l:List Tk}(h:xx TL QL l)(k:Tk):k∈l↔∃p∈TL,k=yO QL p.2:=by
 obtain⟨ts,b,-,rfl⟩:=h
 rw[List.mem_map]
 constructor
 ·rintro⟨x,c,rfl⟩
  obtain⟨p,a,rfl⟩:=List.mem_map.1 (b.mem_iff.1 c)
  exact⟨p,a,rfl⟩
 ·rintro⟨p,a,rfl⟩
  exact⟨p.2,b.mem_iff.2 (List.mem_map.2 ⟨p,a,rfl⟩),rfl⟩
section
variable {c:Cf} {ep:Int} {m:MS} {r:RM}
theorem Yr(e:xx m.TL m.QL r.tg)(hn:r.now=m.now)(d:∀q∈m.QL,0<=q.2.slot)(h:∀p∈m.TL,kw m.QL m.now p.2=false):r.bestI r.tg.length=J:=by
 cases b:r.bestI r.tg.length with
 |none=>rfl
 |some j=>
  obtain⟨-,x,f,a⟩:=ZT r _ b
  obtain⟨p,c,rfl⟩:=(e.mem x).1 (List.mem_of_getElem? f)
  rw[Ve d,hn,h p c]at a
  cases a
theorem zfR(d:MOk c ep m)(G:r.c=c)(t:xx m.TL m.QL r.tg)(hn:r.now=m.now)(u:r.tight=yx (xg m.L) c.qu)(z:∀q∈m.QL,0<=q.2.slot){p:Jk×Tsk}(n:p∈m.TL)(H:kw m.QL m.now p.2=true)(N:QI c m.now (yx (xg m.L) c.qu) m.QL m.TL p.2):
  ∃j,r.bestI r.tg.length=K j/\r.tg[j]?=K (yO m.QL p.2):=by
 have e:=(t.mem (yO m.QL p.2)).2 ⟨p,n,rfl⟩
 obtain⟨i,h,l⟩:=List.getElem_of_mem e
 have b:r.tg[i]?=K (yO m.QL p.2):=by rw[List.getElem?_eq_getElem h,l]
 have a:r.freeT (yO m.QL p.2)=true:=by rw[Ve z,hn];exact H
 cases g:r.bestI r.tg.length with
 |none=>
  have:=Xz _ g i _ h b
  rw[this]at a;cases a
 |some j=>
  obtain⟨-,x,v,w⟩:=ZT r _ g
  obtain⟨q,o,rfl⟩:=(t.mem x).1 (List.mem_of_getElem? v)
  refine⟨j,rfl,?_⟩
  have y:=vX zbv (fun k M=>by
   obtain⟨P,s,rfl⟩:=(t.mem k).1 M
   rw[yY]
   exact⟨zlg _ _,by rw[hn];exact(d.tg P s).si.2⟩) r.tg.length j _ g v i _ h b a
  rw[yY,yY,G,hn,u]at y
  have F:=N q o (by rw[<-hn,<-Ve z];exact w)
  obtain⟨A,B⟩:=zjH _ _ _ _ _ y F
  have D:p.1=q.1:=by
   rw[(d.tg p n).key,(d.tg q o).key]
   unfold Tsk.key
   rw[A,B]
  have C:zV m.TL p.1=K p.2:=xu d.nt n
  have f:zV m.TL q.1=K q.2:=xu d.nt o
  rw[<-D,C]at f
  injection f with f
  rw[v,f]
end
theorem Vd{QL:List (Tok×Lse)}{x:Tsk}{q:Tok×Lse}(h:QL.find? (fun p=>decide (p.2.job=x.key))=K q):q.2.job=x.key:=by
 have:=List.find?_some h
 exact of_decide_eq_true this
theorem Xe{QL:List (Tok×Lse)}(g:(QL.map (fun q=>q.2.job)).Nodup){q:Tok×Lse}(c:q∈QL){x:Tsk}(e:q.2.job=x.key):vN QL x=(q.1,q.2.slot,q.2.til):=by
 unfold vN
 cases a:QL.find? (fun p=>decide (p.2.job=x.key))with
 |none=>exact absurd (decide_eq_true e) (List.find?_eq_none.1 a q c)
 |some b=>
  have d:=List.mem_of_find?_eq_some a
  have f:b.2.job=x.key:=Vd a
  have:b=q:=yr g b d q c (f.trans e.symm)
  subst this
  rfl
theorem jG{QL:List (Tok×Lse)}{x:Tsk}(h:∀q∈QL,q.2.job≠x.key):vN QL x=(⟨0,0⟩,-1,0):=by
 unfold vN
 cases a:QL.find? (fun p=>decide (p.2.job=x.key))with
 |none=>rfl
 |some q=>exact absurd (Vd a) (h q (List.mem_of_find?_eq_some a))
theorem jW(QL:List (Tok×Lse))(x:Tsk):(∃q∈QL,q.2.job=x.key/\vN QL x=(q.1,q.2.slot,q.2.til))\/((∀q∈QL,q.2.job≠x.key)/\vN QL x=(⟨0,0⟩,-1,0)):=by
 unfold vN
 cases a:QL.find? (fun p=>decide (p.2.job=x.key))with
 |none=>exact .inr ⟨fun q b e=>List.find?_eq_none.1 a q b (decide_eq_true e),rfl⟩
 |some q=>exact .inl ⟨q,List.mem_of_find?_eq_some a,Vd a,rfl⟩
section
variable {c:Cf} {ep:Int} {m:MS} {r:RM}
theorem MOk.leased(a:MOk c ep m){q:Tok×Lse}(e:q∈m.QL):∃p∈m.TL,p.2.key=q.2.job/\vN m.QL p.2=(q.1,q.2.slot,q.2.til):=by
 obtain⟨x,f,-⟩:=(a.leas q e).job
 have d:=zK f
 have b:=(a.tg _ d).key
 exact⟨_,d,b.symm,Xe a.jobs e b⟩
theorem QM(i:MOk c ep m)(g:xx m.TL m.QL r.tg)(slot:Int)(j:0<=slot):r.tg.any (fun x=>x.slot==slot)=m.QL.any (fun p=>p.2.slot==slot):=by
 rw[Bool.eq_iff_iff,List.any_eq_true,List.any_eq_true]
 constructor
 ·rintro⟨k,h,d⟩
  obtain⟨p,f,rfl⟩:=(g.mem k).1 h
  have a:(vN m.QL p.2).2.1=slot:=by simpa[yO]using d
  rcases jW m.QL p.2 with⟨q,b,-,e⟩|⟨-,e⟩
  ·rw[e]at a;exact⟨q,b,by simpa using a⟩
  ·rw[e]at a;simp only at a;omega
 ·rintro⟨q,b,d⟩
  obtain⟨p,f,-,e⟩:=i.leased b
  exact⟨yO m.QL p.2,(g.mem _).2 ⟨p,f,rfl⟩,by simpa[yO,e]using d⟩
theorem Vg(k:∀q∈m.QL,0<=q.2.slot)(j:(m.QL.map (fun q=>q.2.job)).Nodup)(x:Tsk)(e n:Int):(yO m.QL x).holds e n=true↔∃q∈m.QL,q.1=⟨e,n⟩/\q.2.job=x.key:=by
 unfold Tk.holds yO
 simp only[Bool.and_eq_true,decide_eq_true_eq]
 rcases jW m.QL x with⟨q,i,g,f⟩|⟨hn,f⟩
 ·rw[f]
  simp only
  constructor
  ·rintro⟨-,c,b⟩
   refine⟨q,i,?_,g⟩
   obtain⟨⟨_,_⟩,_⟩:=q
   simp only at c b ⊢
   rw[c,b]
  ·rintro⟨d,a,c,b⟩
   have:d=q:=yr j d a q i (b.trans g.symm)
   subst this
   exact⟨k d a,by rw[c],by rw[c]⟩
 ·rw[f]
  simp only
  constructor
  ·rintro⟨h,-⟩;omega
  ·rintro⟨d,a,-,b⟩;exact absurd b (hn d a)
theorem Ke(a:MOk c ep m)(j:xx m.TL m.QL r.tg)(i:∀q∈m.QL,0<=q.2.slot)(e n:Int)(h:zV m.QL ⟨e,n⟩=J):r.tg.findIdx? (Tk.holds e n)=J:=by
 rw[List.findIdx?_eq_none_iff]
 intro k f
 obtain⟨p,l,rfl⟩:=(j.mem k).1 f
 cases d:(yO m.QL p.2).holds e n with
 |false=>rfl
 |true=>
  obtain⟨q,g,b,-⟩:=(Vg i a.jobs p.2 e n).1 d
  have:zV m.QL q.1=K q.2:=xu a.nq g
  rw[b,h]at this;cases this
theorem XI(a:MOk c ep m)(v:xx m.TL m.QL r.tg)(u:∀q∈m.QL,0<=q.2.slot)(e n:Int){g:Lse}(h:zV m.QL ⟨e,n⟩=K g){x:Tsk}(w:zV m.TL g.job=K x):∃j,r.tg.findIdx? (Tk.holds e n)=K j/\r.tg[j]?=K (yO m.QL x):=by
 have F:=zK h
 have t:=zK w
 have D:=(a.tg _ t).key
 have C:(yO m.QL x).holds e n=true:=(Vg u a.jobs x e n).2 ⟨_,F,rfl,D⟩
 cases p:r.tg.findIdx? (Tk.holds e n)with
 |none=>
  have:=List.findIdx?_eq_none_iff.1 p _ ((v.mem _).2 ⟨_,t,rfl⟩)
  rw[C]at this;cases this
 |some j=>
  obtain⟨s,o,-⟩:=List.findIdx?_eq_some_iff_getElem.1 p
  refine⟨j,rfl,?_⟩
  obtain⟨d,b,l⟩:=(v.mem _).1 (List.getElem_mem s)
  rw[l]at o
  obtain⟨y,k,z,A⟩:=(Vg u a.jobs d.2 e n).1 o
  have f:zV m.QL y.1=K y.2:=xu a.nq k
  rw[z,h]at f
  injection f with f
  have B:d.1=g.job:=by rw[(a.tg d b).key,<-A,f]
  have i:zV m.TL d.1=K d.2:=xu a.nt b
  rw[B,w]at i
  injection i with i
  rw[List.getElem?_eq_getElem s,l,i]
end
theorem XH{QL QL':List (Tok×Lse)}(d:(QL.map (fun q=>q.2.job)).Nodup)(c:(QL'.map (fun q=>q.2.job)).Nodup){x:Tsk}(h:∀q,q.2.job=x.key->(q∈QL↔q∈QL')):vN QL x=vN QL' x:=by
 rcases jW QL x with⟨q,b,a,e⟩|⟨hn,e⟩
 ·rw[e,Xe c ((h q a).1 b) a]
 ·rw[e,jG (fun q b a=>hn q ((h q a).2 b) a)]
theorem vT{QL QL':List (Tok×Lse)}{x:Tsk}(h:vN QL x=vN QL' x):yO QL x=yO QL' x:=by
 unfold yO;rw[h]
theorem ziu{QL:List (Tok×Lse)}{x y:Tsk}(h:yO QL x=yO QL y):x=y:=by
 have:=congrArg zbv h
 rwa[yY,yY]at this
theorem Q7{ts:List Tsk}(g:ts.Nodup){QL QL':List (Tok×Lse)}{j:Nat}{x x':Tsk}(a:(ts.map (yO QL))[j]?=K (yO QL x))(f:Tk->Tk)(n:f (yO QL x)=yO QL' x')(p:∀y∈ts,y≠x->yO QL y=yO QL' y):ts[j]?=K x/\(ts.map (yO QL)).modify j f=(ts.set j x').map (yO QL'):=by
 have k:ts[j]?=K x:=by
  rw[List.getElem?_map]at a
  cases h:ts[j]? with
  |none=>rw[h]at a;cases a
  |some y=>rw[h]at a;injection a with a;rw[ziu a]
 refine⟨k,?_⟩
 obtain⟨c,d⟩:=List.getElem?_eq_some_iff.1 k
 apply List.ext_getElem?
 intro i
 rw[List.getElem?_modify,List.getElem?_map,List.getElem?_map,List.getElem?_set]
 by_cases e:j=i
 ·subst e
  rw[k]
  simp[c,n]
 ·rw[if_neg e]
  cases m:ts[i]? with
  |none=>simp[e]
  |some y=>
   have l:y≠x:=fun h=>by
    subst h
    obtain⟨o,b⟩:=List.getElem?_eq_some_iff.1 m
    exact e ((List.getElem_inj g).1 (d.trans b.symm))
   simp[e,p y (List.mem_of_getElem? m) l]
theorem vv{α β:Type}{f:α->β}:∀{l:List α},(l.map f).Nodup->l.Nodup
 |[],_=>List.nodup_nil
 |a::l,h=>by
  rw[List.map_cons,List.nodup_cons]at h
  exact List.nodup_cons.2 ⟨fun b=>h.1 (List.mem_map.2 ⟨a,b,rfl⟩),vv h.2⟩
theorem xx.nodup{c:Cf}{ep:Int}{m:MS}(b:MOk c ep m){ts:List Tsk}(a:ts.Perm (m.TL.map (·.2))):ts.Nodup:=by
 rw[a.nodup_iff]
 have d:((m.TL.map (·.2)).map Tsk.key).Nodup:=by
  rw[List.map_map]
  have e:m.TL.map (Tsk.key∘fun p:Jk×Tsk=>p.2)=zv m.TL:=by
   unfold zv
   apply List.map_congr_left
   intro p a
   exact(b.tg p a).key.symm
  rw[e];exact b.nt
 exact vv d
theorem xx.taken{c:Cf}{ep:Int}{m:MS}{l:List Tk}(b:MOk c ep m)(h:xx m.TL m.QL l){QL':List (Tok×Lse)}(u:(QL'.map (fun q=>q.2.job)).Nodup){t:Tok}{p:Jk×Tsk}(v:p∈m.TL){slot til:Int}(hn:∀q∈m.QL,q.2.job≠p.2.key)(w:∀q,q∈QL'↔q=(t,⟨p.2.kd,p.2.s,slot,til⟩)\/q∈m.QL){j:Nat}(B:l[j]?=K (yO m.QL p.2)):xx m.TL QL' (l.modify j (Tk.leased t.ep t.num slot til)):=by
 obtain⟨ts,a,D,rfl⟩:=h
 have d:(⟨p.2.kd,p.2.s,slot,til⟩:Lse).job=p.2.key:=rfl
 have o:vN QL' p.2=(t,slot,til):=Xe u (q:=(t,⟨p.2.kd,p.2.s,slot,til⟩)) ((w _).2 (.inl rfl)) d
 obtain⟨F,A⟩:=Q7 (QL':=QL') (x':=p.2) (xx.nodup b a) B (Tk.leased t.ep t.num slot til) (by unfold Tk.leased yO;rw[o]) (fun y G r=>vT (XH b.jobs u (fun q C=>by
  rw[w]
  constructor
  ·exact .inr
  ·rintro(rfl|h)
   ·exfalso
    obtain⟨i,e,rfl⟩:=List.mem_map.1 (a.mem_iff.1 G)
    have z:i.1=p.1:=by rw[(b.tg i e).key,(b.tg p v).key];exact C.symm
    have x:zV m.TL p.1=K p.2:=xu b.nt v
    have g:zV m.TL i.1=K i.2:=xu b.nt e
    rw[z,x]at g
    injection g with g
    exact r g.symm
   ·exact h)))
 rw[A]
 obtain⟨k,n⟩:=List.getElem?_eq_some_iff.1 F
 have f:ts.set j p.2=ts:=by rw[<-n];exact List.set_getElem_self k
 rw[f]
 exact⟨ts,a,D,rfl⟩
def VQ(x x' z:Tsk):Tsk:=if z.key=x.key then x' else z
theorem zcy{x x':Tsk}(h:x'.kd=x.kd/\x'.s=x.s)(z:Tsk):(VQ x x' z).kd=z.kd/\(VQ x x' z).s=z.s:=by
 unfold VQ
 split
 ·rename_i e
  unfold Tsk.key at e
  injection e with a b
  exact⟨h.1.trans a.symm,h.2.trans b.symm⟩
 ·exact⟨rfl,rfl⟩
theorem zir{ts:List Tsk}(f:(ts.map Tsk.key).Nodup){j:Nat}{x x':Tsk}(k:ts[j]?=K x):ts.set j x'=ts.map (VQ x x'):=by
 obtain⟨a,d⟩:=List.getElem?_eq_some_iff.1 k
 apply List.ext_getElem?
 intro i
 rw[List.getElem?_set,List.getElem?_map]
 by_cases e:j=i
 ·subst e
  rw[k]
  simp[a,VQ]
 ·rw[if_neg e]
  cases m:ts[i]? with
  |none=>rfl
  |some y=>
   have g:¬y.key=x.key:=fun h=>by
    obtain⟨b,c⟩:=List.getElem?_eq_some_iff.1 m
    have l:(ts.map Tsk.key)[j]'(by simpa using a)=(ts.map Tsk.key)[i]'(by simpa using b):=by simp[d,c,h]
    exact e ((List.getElem_inj f).1 l)
   simp[VQ,g]
theorem xx.failed{c:Cf}{ep:Int}{m:MS}{l:List Tk}(g:MOk c ep m)(h:xx m.TL m.QL l){k:Jk}{x x':Tsk}(P:zV m.TL k=K x)(i:x'.kd=x.kd/\x'.s=x.s){QL':List (Tok×Lse)}(D:(QL'.map (fun q=>q.2.job)).Nodup)(M:∀q,q∈QL'↔q∈m.QL/\q.2.job≠x.key)(f:Tk->Tk)(G:f (yO m.QL x)=yO QL' x'){j:Nat}(H:l[j]?=K (yO m.QL x)):xx (qt m.TL k x') QL' (l.modify j f):=by
 obtain⟨ts,d,N,rfl⟩:=h
 have r:=zK P
 have o:k=x.key:=(g.tg _ r).key
 have n:(ts.map Tsk.key).Nodup:=by
  have C:((m.TL.map (·.2)).map Tsk.key).Nodup:=by
   rw[List.map_map]
   have e:m.TL.map (Tsk.key∘fun p:Jk×Tsk=>p.2)=zv m.TL:=by
    unfold zv
    apply List.map_congr_left
    intro p r
    exact(g.tg p r).key.symm
   rw[e];exact g.nt
  exact((d.map Tsk.key).nodup_iff).2 C
 obtain⟨z,F⟩:=Q7 (QL':=QL') (x':=x') (xx.nodup g d) H f G (fun y R v=>vT (XH g.jobs D (fun q L=>by
  rw[M]
  constructor
  ·refine fun h=>⟨h,fun e=>?_⟩
   apply v
   exact yr n y R x (d.mem_iff.2 (List.mem_map.2 ⟨_,r,rfl⟩)) (L.symm.trans e)
  ·exact fun h=>h.1)))
 rw[F,zir n z]
 refine⟨ts.map (VQ x x'),?_,?_,rfl⟩
 ·have e:(qt m.TL k x').map (·.2)=(m.TL.map (·.2)).map (VQ x x'):=by
   unfold qt
   have u:k∈zv m.TL:=List.mem_map.2 ⟨_,r,rfl⟩
   rw[if_pos u,List.map_map,List.map_map]
   apply List.map_congr_left
   intro p w
   have t:=(g.tg p w).key
   simp only[Function.comp,VQ]
   by_cases e:p.1=k
   ·rw[if_pos e,if_pos (by rw[<-t,e,o])]
   ·rw[if_neg e,if_neg (fun h=>e (by rw[t,h,o]))]
  rw[e]
  exact d.map _
 ·rw[List.pairwise_map]
  refine N.imp (fun{a b} h=>?_)
  have A:=zcy i a
  have B:=zcy i b
  rw[qv]at h ⊢
  rw[A.1,A.2,B.1,B.2]
  exact h
theorem zeO{c:Cf}{ep:Int}{m:MS}{r:RM}(d:MOk c ep m)(s:xx m.TL m.QL r.tg)(hn:r.now=m.now)(y:∀q∈m.QL,0<=q.2.slot)(e n:Int){g:Lse}(k:zV m.QL ⟨e,n⟩=K g){x:Tsk}(p:zV m.TL g.job=K x):
  (r.fail e n).2=0/\(r.fail e n).1={r with tg:=(r.fail e n).1.tg}/\xx (qt m.TL g.job (x.failed m.now)) (xt m.QL ⟨e,n⟩) (r.fail e n).1.tg:=by
 obtain⟨j,t,u⟩:=XI d s y e n k p
 have l:g.job=x.key:=(d.tg _ (zK p)).key
 have v:r.fail e n=({r with tg:=r.tg.modify j (Tk.fail r.now)},0):=by unfold RM.fail;rw[t]
 rw[v]
 refine⟨rfl,rfl,?_⟩
 have h:=zK k
 refine xx.failed (x':=x.failed m.now) (QL':=xt m.QL ⟨e,n⟩) d s p ⟨rfl,rfl⟩ (jX d.jobs _) (fun q=>?_) (Tk.fail r.now) ?_ u
 ·rw[zZ]
  constructor
  ·rintro⟨a,b⟩
   exact⟨a,fun f=>jH d.jobs h (zZ.2 ⟨a,b⟩) (f.trans l.symm)⟩
  ·rintro⟨a,b⟩
   refine⟨a,fun f=>b ?_⟩
   have i:zV m.QL q.1=K q.2:=xu d.nq a
   rw[f,k]at i
   injection i with i
   rw[<-i,l]
 ·have o:vN (xt m.QL ⟨e,n⟩) (x.failed m.now)=(⟨0,0⟩,-1,0):=jG (fun q w f=>jH d.jobs h w (f.trans l.symm))
  rw[hn]
  unfold Tk.fail yO
  rw[o]
  rfl
theorem Yj(a b:Tk):xZ a b=true↔(a.kind<b.kind\/a.kind=b.kind/\(a.s.t<b.s.t\/a.s.t=b.s.t/\(a.s.se<b.s.se\/a.s.se=b.s.se/\a.s.we<b.s.we))):=by
 unfold xZ
 repeat' split
 all_goals(simp only[decide_eq_true_eq];omega)
theorem Yl(lt:Tk->Tk->Bool)(x y:Tk):∀l:List Tk,y∈yN lt x l↔y=x\/y∈l
 |[]=>by simp[yN]
 |z::l=>by
  unfold yN
  split
  ·simp
  ·rw[List.mem_cons,Yl lt x y l,List.mem_cons]
   constructor
   ·rintro(h|h|h)
    ·exact .inr (.inl h)
    ·exact .inl h
    ·exact .inr (.inr h)
   ·rintro(h|h|h)
    ·exact .inr (.inl h)
    ·exact .inl h
    ·exact .inr (.inr h)
theorem Qh(x:Tk):∀l:List Tk,l.Pairwise (fun a b=>¬xZ b a=true)->(yN xZ x l).Pairwise (fun a b=>¬xZ b a=true)
 |[],_=>by simp[yN]
 |z::l,h=>by
  rw[List.pairwise_cons]at h
  unfold yN
  split
  ·rename_i hlt
   rw[List.pairwise_cons]
   refine⟨fun y c=>?_,List.pairwise_cons.2 h⟩
   rcases List.mem_cons.1 c with rfl|c
   ·rw[Yj]at*;omega
   ·have:=h.1 y c
    rw[Yj]at*;omega
  ·rename_i hlt
   rw[List.pairwise_cons]
   refine⟨fun y c=>?_,Qh x l h.2⟩
   rcases(Yl _ _ _ _).1 c with rfl|c
   ·exact hlt
   ·exact h.1 y c
theorem jI{m:RM}{l:List Sg}{kind:Int}{out:List Tk}{s:Sg}{k:Tk}:k∈yJ m l kind out s↔(kj m kind s l=true/\k=qF m kind s)\/k∈out:=by
 unfold yJ
 split
 ·rename_i h
  rw[Yl]
  simp[h]
 ·rename_i h
  simp[h]
theorem Qi{m:RM}{l:List Sg}{kind:Int}{out:List Tk}{s:Sg}(h:out.Pairwise (fun a b=>¬xZ b a=true)):(yJ m l kind out s).Pairwise (fun a b=>¬xZ b a=true):=by
 unfold yJ
 split
 ·exact Qh _ _ h
 ·exact h
theorem Y7(m:RM)(l:List Sg):∀(xs:List Sg) (out:List Tk),out.Pairwise (fun a b=>¬xZ b a=true)->(xs.foldl (fun out s=>yJ m l 2 (yJ m l 1 out s) s) out).Pairwise (fun a b=>¬xZ b a=true)/\∀k,k∈xs.foldl (fun out s=>yJ m l 2 (yJ m l 1 out s) s) out↔k∈out\/∃s∈xs,∃kind,(kind=1\/kind=2)/\kj m kind s l=true/\k=qF m kind s
 |[],out,h=>⟨h,fun k=>by simp⟩
 |x::xs,out,h=>by
  obtain⟨e,f⟩:=Y7 m l xs _ (Qi (m:=m) (l:=l) (kind:=2) (s:=x) (Qi (m:=m) (l:=l) (kind:=1) (s:=x) h))
  refine⟨e,fun k=>?_⟩
  rw[List.foldl_cons,f,jI,jI]
  constructor
  ·rintro((⟨a,b⟩|⟨a,b⟩|a)|⟨s,c,a⟩)
   ·exact .inr ⟨x,by simp,2,.inr rfl,a,b⟩
   ·exact .inr ⟨x,by simp,1,.inl rfl,a,b⟩
   ·exact .inl a
   ·exact .inr ⟨s,by simp[c],a⟩
  ·rintro(a|⟨s,c,kind,d,a,b⟩)
   ·exact .inl (.inr (.inr a))
   ·rcases List.mem_cons.1 c with rfl|c
    ·rcases d with rfl|rfl
     ·exact .inl (.inr (.inl ⟨a,b⟩))
     ·exact .inl (.inl ⟨a,b⟩)
    ·exact .inr ⟨s,c,kind,d,a,b⟩
theorem jM(m:RM):m.settled.tg.Pairwise (fun a b=>¬xZ b a=true)/\∀k,k∈m.settled.tg↔∃s∈zS m.c m.nu,∃kind,(kind=1\/kind=2)/\kj m kind s (zS m.c m.nu)=true/\k=qF m kind s:=by
 have h:=Y7 m (zS m.c m.nu) (zS m.c m.nu) [] List.Pairwise.nil
 have e:m.settled.tg=(zS m.c m.nu).foldl (fun out s=>yJ m (zS m.c m.nu) 2 (yJ m (zS m.c m.nu) 1 out s) s) []:=by
  unfold RM.settled xY
  simp only[List.take_length]
 rw[e]
 refine⟨h.1,fun k=>?_⟩
 rw[h.2]
 simp
theorem Kz(lt:Tk->Tk->Bool)(x:Tk):∀l:List Tk,(yN lt x l).Perm (x::l)
 |[]=> .refl _
 |z::l=>by
  unfold yN
  split
  ·exact .refl _
  ·exact((Kz lt x l).cons z).trans (.swap x z l)
theorem vl(m:RM)(kind:Int)(s:Sg):(qF m kind s).kind=kind/\(qF m kind s).s=s:=by
 unfold qF
 have:∀(l:List Tk) (t:Tk),t.kind=kind/\t.s=s->(l.foldl (qj kind s) t).kind=kind/\(l.foldl (qj kind s) t).s=s:=fun l=>by
  induction l with
  |nil=>exact fun t h=>h
  |cons x l a=>
   intro t h
   refine a _ ?_
   unfold qj
   split
   ·rename_i e;exact e
   ·exact h
 exact this _ _ ⟨rfl,rfl⟩
theorem Kg(m:RM)(l:List Sg):∀(xs:List Sg) (out:List Tk),xs.Nodup->out.Nodup->(∀k∈out,k.s∉xs)->(xs.foldl (fun out s=>yJ m l 2 (yJ m l 1 out s) s) out).Nodup
 |[],out,_,h,_=>h
 |x::xs,out,c,h,d=>by
  rw[List.nodup_cons]at c
  rw[List.foldl_cons]
  have b:∀(kind:Int) (o:List Tk),o.Nodup->(∀k∈o,k.s=x->k.kind≠kind)->(yJ m l kind o x).Nodup:=fun kind o f a=>by
   unfold yJ
   split
   ·rw[(Kz _ _ _).nodup_iff,List.nodup_cons]
    exact⟨fun j=>a _ j (vl m kind x).2 (vl m kind x).1,f⟩
   ·exact f
  have g:=b 1 out h (fun k a e=>absurd (by simp[e]) (d k a))
  have i:=b 2 _ g (fun k a e=>by
   rcases jI.1 a with⟨-,rfl⟩|a
   ·rw[(vl m 1 x).1];decide
   ·exact absurd (by simp[e]) (d k a))
  refine Kg m l xs _ c.2 i (fun k a=>?_)
  rcases jI.1 a with⟨-,rfl⟩|a
  ·rw[(vl m 2 x).2];exact c.1
  ·rcases jI.1 a with⟨-,rfl⟩|a
   ·rw[(vl m 1 x).2];exact c.1
   ·exact fun e=>d k a (by simp[e])
theorem VL(m:RM):m.settled.tg.Nodup:=by
 have e:m.settled.tg=(zS m.c m.nu).foldl (fun out s=>yJ m (zS m.c m.nu) 2 (yJ m (zS m.c m.nu) 1 out s) s) []:=by
  unfold RM.settled xY
  simp only[List.take_length]
 rw[e]
 exact Kg m _ _ [] (Qe _ _) List.nodup_nil (fun k a=>by cases a)
theorem xx.of_settled{TL:List (Jk×Tsk)}{QL:List (Tok×Lse)}{r:RM}(c:∀p∈TL,p.1=p.2.key)(hn:(zv TL).Nodup)(m:∀p∈TL,yO QL p.2∈r.settled.tg)(i:∀k∈r.settled.tg,∃p∈TL,k=yO QL p.2):xx TL QL r.settled.tg:=by
 have g:(r.settled.tg.map zbv).map (yO QL)=r.settled.tg:=by
  rw[List.map_map]
  conv=>rhs;rw[<-List.map_id r.settled.tg]
  apply List.map_congr_left
  intro k c
  obtain⟨p,-,rfl⟩:=i k c
  simp only[Function.comp,yY,id]
 have j:(r.settled.tg.map zbv).Nodup:=vv (f:=yO QL) (by rw[g];exact VL r)
 have l:(TL.map (·.2)).Nodup:=by
  refine vv (f:=Tsk.key) ?_
  rw[List.map_map]
  have e:TL.map (Tsk.key∘fun p:Jk×Tsk=>p.2)=zv TL:=by
   unfold zv
   apply List.map_congr_left
   intro p d
   exact(c p d).symm
  rw[e];exact hn
 refine⟨r.settled.tg.map zbv,?_,?_,g.symm⟩
 ·rw[List.perm_ext_iff_of_nodup j l]
  intro x
  rw[List.mem_map,List.mem_map]
  constructor
  ·rintro⟨k,c,rfl⟩
   obtain⟨p,d,rfl⟩:=i k c
   exact⟨p,d,by rw[yY]⟩
  ·rintro⟨p,d,rfl⟩
   exact⟨_,m p d,by rw[yY]⟩
 ·rw[List.pairwise_map]
  refine List.Pairwise.imp_of_mem (fun{a b} n o h=>?_) (jM r).1
  obtain⟨p,-,rfl⟩:=i a n
  obtain⟨q,-,rfl⟩:=i b o
  rw[yY,yY,qv]
  rw[Yj]at h
  exact h
theorem zkX{T:List (Jk×Tsk)}(hn:(zv T).Nodup)(now:Int)(b:Bool)(kd:Int)(s:Sg)(k:Jk)(x:Tsk):∀a,(a=match zV T ⟨kd,s⟩with|some _=>T|none=>qt T ⟨kd,s⟩ ⟨b,s,now,0,0⟩)->((zv a).Nodup/\(zV a k=K x↔zV T k=K x\/(zV T k=J/\k=⟨kd,s⟩/\x=⟨b,s,now,0,0⟩))):=by
 rintro a rfl
 split
 ·rename_i y hy
  refine⟨hn,⟨.inl,?_⟩⟩
  rintro(h|⟨c,d,-⟩)
  ·exact h
  ·rw[d,hy]at c;cases c
 ·rename_i hy
  refine⟨qC hn,?_⟩
  rw[ja hn]
  by_cases e:k=⟨kd,s⟩
  ·rw[if_pos e,e,hy]
   simp[eq_comm]
  ·rw[if_neg e]
   simp[e]
theorem Jh{now:Int}:∀(i:List Sg) {T:List (Jk×Tsk)},(zv T).Nodup->(zv (i.foldl (qW now) T)).Nodup/\∀k x,zV (i.foldl (qW now) T) k=K x↔zV T k=K x\/(zV T k=J/\∃s∈i,k=⟨1,s⟩/\x=⟨true,s,now,0,0⟩)
 |[],T,hn=>⟨hn,fun k x=>by simp⟩
 |y::i,T,hn=>by
  have c:=fun k x=>zkX hn now true 1 y k x (qW now T y) rfl
  obtain⟨l,m⟩:=Jh i (c ⟨1,y⟩ ⟨true,y,now,0,0⟩).1
  refine⟨l,fun k x=>?_⟩
  rw[List.foldl_cons,m,(c k x).2]
  have j:zV (qW now T y) k=J↔zV T k=J/\k≠⟨1,y⟩:=by
   constructor
   ·intro h
    refine⟨?_,fun e=>?_⟩
    ·cases f:zV T k with
     |none=>rfl
     |some z=>rw[(c k z).2.2 (.inl f)]at h;cases h
    ·cases f:zV T k with
     |none=>rw[(c k _).2.2 (.inr ⟨f,e,rfl⟩)]at h;cases h
     |some z=>rw[(c k z).2.2 (.inl f)]at h;cases h
   ·rintro⟨a,b⟩
    cases f:zV (qW now T y) k with
    |none=>rfl
    |some z=>
     rcases(c k z).2.1 f with h|⟨-,h,-⟩
     ·rw[a]at h;cases h
     ·exact absurd h b
  rw[j]
  constructor
  ·rintro((a|⟨a,b,d⟩)|⟨⟨a,-⟩,s,g,b,d⟩)
   ·exact .inl a
   ·exact .inr ⟨a,y,by simp,b,d⟩
   ·exact .inr ⟨a,s,by simp[g],b,d⟩
  ·rintro(a|⟨a,s,g,b,d⟩)
   ·exact .inl (.inl a)
   ·by_cases e:k=⟨1,y⟩
    ·have:s=y:=by rw[b]at e;injection e
     subst this
     exact .inl (.inr ⟨a,b,d⟩)
    ·rcases List.mem_cons.1 g with rfl|g
     ·exact absurd b e
     ·exact .inr ⟨⟨a,e⟩,s,g,b,d⟩
theorem Jg{now:Int}:∀(i:List Sg) {T:List (Jk×Tsk)},(zv T).Nodup->(zv (i.foldl (yF now) T)).Nodup/\∀k x,zV (i.foldl (yF now) T) k=K x↔zV T k=K x\/(zV T k=J/\∃s∈i,k=⟨2,s⟩/\x=⟨false,s,now,0,0⟩)
 |[],T,hn=>⟨hn,fun k x=>by simp⟩
 |y::i,T,hn=>by
  have c:=fun k x=>zkX hn now false 2 y k x (yF now T y) rfl
  obtain⟨l,m⟩:=Jg i (c ⟨2,y⟩ ⟨false,y,now,0,0⟩).1
  refine⟨l,fun k x=>?_⟩
  rw[List.foldl_cons,m,(c k x).2]
  have j:zV (yF now T y) k=J↔zV T k=J/\k≠⟨2,y⟩:=by
   constructor
   ·intro h
    refine⟨?_,fun e=>?_⟩
    ·cases f:zV T k with
     |none=>rfl
     |some z=>rw[(c k z).2.2 (.inl f)]at h;cases h
    ·cases f:zV T k with
     |none=>rw[(c k _).2.2 (.inr ⟨f,e,rfl⟩)]at h;cases h
     |some z=>rw[(c k z).2.2 (.inl f)]at h;cases h
   ·rintro⟨a,b⟩
    cases f:zV (yF now T y) k with
    |none=>rfl
    |some z=>
     rcases(c k z).2.1 f with h|⟨-,h,-⟩
     ·rw[a]at h;cases h
     ·exact absurd h b
  rw[j]
  constructor
  ·rintro((a|⟨a,b,d⟩)|⟨⟨a,-⟩,s,g,b,d⟩)
   ·exact .inl a
   ·exact .inr ⟨a,y,by simp,b,d⟩
   ·exact .inr ⟨a,s,by simp[g],b,d⟩
  ·rintro(a|⟨a,s,g,b,d⟩)
   ·exact .inl (.inl a)
   ·by_cases e:k=⟨2,y⟩
    ·have:s=y:=by rw[b]at e;injection e
     subst this
     exact .inl (.inr ⟨a,b,d⟩)
    ·rcases List.mem_cons.1 g with rfl|g
     ·exact absurd b e
     ·exact .inr ⟨⟨a,e⟩,s,g,b,d⟩
theorem qU.get{c:Cf}{m:MS}{i:List (Jk×Tsk)}(hn:(zv m.TL).Nodup)(v:qU c m i):∃(j:List (Sg×Unit)),(∀x,x∈zv j↔∃k,k∈zx m.L/\(stL m.L k).st=2/\x∈kg c k)/\(zv i).Nodup/\∀k x,zV i k=K x↔zV m.TL k=K x\/(zV m.TL k=J/\∃s∈zx m.L,(vq c j m.L m.now s=true/\k=⟨1,s⟩/\x=⟨true,s,m.now,0,0⟩)\/(vo c m.L m.now s=true/\k=⟨2,s⟩/\x=⟨false,s,m.now,0,0⟩)):=by
 obtain⟨j,g,r,u,n,o,rfl⟩:=v.to
 obtain⟨w,l⟩:=Jh (now:=m.now) g hn
 obtain⟨y,t⟩:=Jg (now:=m.now) r w
 refine⟨j,u,y,fun k x=>?_⟩
 rw[t,l]
 have q:zV (g.foldl (qW m.now) m.TL) k=J↔zV m.TL k=J/\∀s∈g,k≠⟨1,s⟩:=by
  constructor
  ·intro h
   have a:zV m.TL k=J:=by
    cases p:zV m.TL k with
    |none=>rfl
    |some z=>rw[(l k z).2 (.inl p)]at h;cases h
   exact⟨a,fun s f e=>by rw[(l k _).2 (.inr ⟨a,s,f,e,rfl⟩)]at h;cases h⟩
  ·rintro⟨a,b⟩
   cases p:zV (g.foldl (qW m.now) m.TL) k with
   |none=>rfl
   |some z=>
    rcases(l k z).1 p with h|⟨-,s,f,e,-⟩
    ·rw[a]at h;cases h
    ·exact absurd e (b s f)
 rw[q]
 constructor
 ·rintro((a|⟨a,s,f,b,d⟩)|⟨⟨a,-⟩,s,f,b,d⟩)
  ·exact .inl a
  ·exact .inr ⟨a,s,((n s).1 f).1,.inl ⟨((n s).1 f).2,b,d⟩⟩
  ·exact .inr ⟨a,s,((o s).1 f).1,.inr ⟨((o s).1 f).2,b,d⟩⟩
 ·rintro(a|⟨a,s,f,⟨h,b,d⟩|⟨h,b,d⟩⟩)
  ·exact .inl (.inl a)
  ·exact .inl (.inr ⟨a,s,(n s).2 ⟨f,h⟩,b,d⟩)
  ·exact .inr ⟨⟨a,fun B _ e=>by rw[b]at e;injection e with A;omega⟩,s,(o s).2 ⟨f,h⟩,b,d⟩
theorem Zi(kind:Int)(s:Sg):∀(l:List Tk) (t:Tk),(∀x∈l,¬(x.kind=kind/\x.s=s))->l.foldl (qj kind s) t=t
 |[],t,_=>rfl
 |x::l,t,h=>by
  rw[List.foldl_cons]
  have e:qj kind s t x=t:=by unfold qj;rw[if_neg (h x (by simp))]
  rw[e]
  exact Zi kind s l t (fun y a=>h y (by simp[a]))
theorem Xb(kind:Int)(s:Sg)(x:Tk)(c:x.kind=kind/\x.s=s):∀(l:List Tk) (t:Tk),(∀y∈l,y.kind=kind/\y.s=s->y=x)->(t=x\/x∈l)->l.foldl (qj kind s) t=x
 |[],t,_,h=>by
  rcases h with h|h
  ·exact h
  ·cases h
 |y::l,t,b,h=>by
  rw[List.foldl_cons]
  refine Xb kind s x c l _ (fun z d=>b z (by simp[d])) ?_
  by_cases a:y.kind=kind/\y.s=s
  ·have e:qj kind s t y=y:=by unfold qj;rw[if_pos a]
   exact .inl (e.trans (b y (by simp) a))
  ·have e:qj kind s t y=t:=by unfold qj;rw[if_neg a]
   rw[e]
   rcases h with h|h
   ·exact .inl h
   ·rcases List.mem_cons.1 h with h|h
    ·exact absurd (h▸c) a
    ·exact .inr h
section
variable {c:Cf} {ep:Int} {m:MS} {r:RM}
theorem zbt(f:MOk c ep m)(j:xx m.TL m.QL r.tg){kind:Int}{s:Sg}{x:Tsk}(k:zV m.TL ⟨kind,s⟩=K x):qF r kind s=yO m.QL x:=by
 have h:=zK k
 have g:(⟨kind,s⟩:Jk)=x.key:=(f.tg _ h).key
 unfold Tsk.key at g
 injection g with b d
 unfold qF
 refine Xb kind s (yO m.QL x) ⟨b.symm,d.symm⟩ _ _ (fun y n e=>?_) (.inr ((j.mem _).2 ⟨_,h,rfl⟩))
 obtain⟨q,i,rfl⟩:=(j.mem y).1 n
 have l:q.1=⟨kind,s⟩:=by
  rw[(f.tg q i).key]
  unfold Tsk.key
  rw[show q.2.kd=kind from e.1,show q.2.s=s from e.2]
 have a:zV m.TL q.1=K q.2:=xu f.nt i
 rw[l,k]at a
 injection a with a
 rw[a]
theorem YF(d:MOk c ep m)(n:xx m.TL m.QL r.tg)(hn:r.now=m.now){b:Bool}{s:Sg}(i:zV m.TL ⟨(⟨b,s,m.now,0,0⟩:Tsk).kd,s⟩=J):qF r (⟨b,s,m.now,0,0⟩:Tsk).kd s=yO m.QL ⟨b,s,m.now,0,0⟩:=by
 have f:∀q∈m.QL,q.2.job≠(⟨b,s,m.now,0,0⟩:Tsk).key:=fun q a e=>by
  obtain⟨y,g,-⟩:=(d.leas q a).job
  rw[e]at g
  have:zV m.TL (⟨b,s,m.now,0,0⟩:Tsk).key=J:=i
  rw[this]at g;cases g
 unfold qF
 rw[Zi]
 ·unfold zaX yO
  rw[jG f,hn]
 ·intro k l e
  obtain⟨q,a,rfl⟩:=(n.mem k).1 l
  have j:q.1=⟨(⟨b,s,m.now,0,0⟩:Tsk).kd,s⟩:=by
   rw[(d.tg q a).key]
   unfold Tsk.key
   rw[show q.2.kd=_ from e.1,show q.2.s=s from e.2]
  have h:zV m.TL q.1=K q.2:=xu d.nt a
  rw[j,i]at h
  cases h
end
section
variable {c:Cf} {ep:Int} {m:MS} {r:RM}
theorem Ql(d:MOk c ep m)(i:xx m.TL m.QL r.tg)(hn:r.now=m.now){a:List (Jk×Tsk)}(k:qU c m a){kind:Int}{s:Sg}{x:Tsk}(l:zV a ⟨kind,s⟩=K x):qF r kind s=yO m.QL x:=by
 obtain⟨n,-,-,j⟩:=k.get d.nt
 rcases(j _ x).1 l with h|⟨h,o,-,⟨-,e,rfl⟩|⟨-,e,rfl⟩⟩
 ·exact zbt d i h
 ·injection e with f g
  subst f g
  exact YF (b:=true) d i hn h
 ·injection e with f g
  subst f g
  exact YF (b:=false) d i hn h
theorem zbl(x:c.ok)(y:c.fits)(o:MOk c ep m)(w:xx m.TL m.QL r.tg)(hn:r.now=m.now){a:List (Jk×Tsk)}(q:qU c m a)(v:∀kind s,(kind=1\/kind=2)->s∈zS r.c r.nu->(kj r kind s (zS r.c r.nu)=true↔(⟨kind,s⟩:Jk)∈zv a))(i:∀k∈zv a,k.s∈zS r.c r.nu):xx a m.QL r.settled.tg:=by
 have h:=(o.post x y q).1
 have u:∀p∈a,p.1=p.2.key:=fun p b=>(h.tg p b).key
 have g:(zv a).Nodup:=h.nt
 refine xx.of_settled u g (fun p b=>?_) (fun k n=>?_)
 ·have l:zV a p.1=K p.2:=xu g b
  have f:p.1.kd=1\/p.1.kd=2:=by
   rw[u p b]
   show p.2.kd=1\/p.2.kd=2
   unfold Tsk.kd
   split<;>simp
  have d:p.1∈zv a:=List.mem_map.2 ⟨p,b,rfl⟩
  have j:=i _ d
  rw[(jM r).2]
  exact⟨p.1.s,j,p.1.kd,f,(v _ _ f j).2 d,(Ql o w hn q l).symm⟩
 ·obtain⟨s,j,kind,f,t,rfl⟩:=((jM r).2 k).1 n
  have d:=(v kind s f j).1 t
  obtain⟨p,b,e⟩:=List.mem_map.1 d
  have l:zV a ⟨kind,s⟩=K p.2:=by rw[<-e];exact xu g b
  exact⟨p,b,Ql o w hn q l⟩
end
theorem vM(n:Int)(w:World)(h:0<=n/\n<4):Calls prog 113 #[I O n] w fun e w'=>e=.returned (.bool true)/\w'=w:=by
 obtain⟨a,b⟩:=h
 go_enter func113,ntmps113
 go_wp2_with fail
 go_ret
 exact⟨rfl,rfl⟩
theorem zft{w:World}{i:Ids}{c:Cf}{ep:Int}{m:MS}(h:zy w i c ep m)(z:c.ok)(se tm val:Int)(l:0<=se/\se<4)(s:0<=tm/\tm<=m.now)(aa:m.now-c.la<=tm)(a1:m.now<=100000)(a2: -2147483648<=val/\val<=2147483647)(hu:0<=xg m.L/\xg m.L<=1000)(T:zgu m.L)(S:∀k:Nat,k<c.n->zV m.Gl (qs c se tm k)=J)(a7:c.qu<xg m.L+(1+2*yh c m.L ⟨se,tm,val⟩ c.n)):
  Calls prog 59 #[.pointer (K ⟨i.x,0,J⟩),I O se,I O tm,I E val] w fun e w'=>e=.returned (I O 4)/\Below w.1.size w w':=by
 obtain⟨a,cap,a0,Z⟩:=h.ts
 obtain⟨c0,c1,c2,c3,c4,c5,F,c7,c8,c9,-⟩:=h.cells
 rw[a0]at F
 have f:=h.lt
 obtain⟨ad,ae⟩:=z.qu
 obtain⟨a8,a9⟩:=z.la
 have ab:=vu c m.L ⟨se,tm,val⟩ c.n
 have ac:=z.n4
 have HU:=fun W R=>ze (Xj ((h.later (w':=W) R).set) (by unfold yS;omega))
 have A:=fun W R=>ze (JH ((h.later (w':=W) R).set) z se tm val l ⟨s.1,by omega⟩ T S)
 have HQ:=fun W=>ze (XK c a cap W)
 have C:=fun W=>ze (Qz c a cap W)
 have B:=fun W=>ze (vM se W l)
 obtain⟨af,ag⟩:=hu
 have a4:decide (tm<0)=false:=by simp;omega
 have a5:decide (m.now<tm)=false:=by simp;omega
 have a6:decide (tm<m.now-c.la)=false:=by simp;omega
 have H:=ze h
 generalize P:xg m.L=U at*
 generalize N:yh c m.L ⟨se,tm,val⟩ c.n=M at*
 obtain⟨V,X⟩:=s
 have s:0<=tm/\tm<=m.now:=⟨V,X⟩
 clear h Z P N
 go_enter func59,ntmps59
 go_wp2_with(first|(go_at_call 113;refine(ud (B _)).mono ?_;rintro e W9 ⟨rfl,h9⟩;have G:=h9.symm;subst G))
 have v:Nonempty (zm w.1.size w):=zm.some _ _
 have t:=fun(u:zm w.1.size w) b o h=>u.cell b o h
 refine zh w.1.size (by kernel_rfl) (by kernel_rfl) ?_
 repeat(go_big_quiet_step (first
  |(go_at_call 114;exact Calls.later (Q _) (ud (C _)))))
 refine wpQuiet_nil ?_
 rintro⟨y,d⟩
 dsimp only
 clear t v
 go_wp2_with fail
 have d0:=(d.cell (p:=⟨i.x,0,J⟩) f).trans c0
 have d1:=(d.cell (p:=⟨i.x,1,J⟩) f).trans c1
 have d2:=(d.cell (p:=⟨i.x,2,J⟩) f).trans c2
 have d3:=(d.cell (p:=⟨i.x,3,J⟩) f).trans c3
 have d4:=(d.cell (p:=⟨i.x,4,J⟩) f).trans c4
 have d5:=(d.cell (p:=⟨i.x,5,J⟩) f).trans c5
 have d6:=(d.cell (p:=⟨i.x,6,J⟩) f).trans F
 have d7:=(d.cell (p:=⟨i.x,7,J⟩) f).trans c7
 have d8:=(d.cell (p:=⟨i.x,8,J⟩) f).trans c8
 have d9:=(d.cell (p:=⟨i.x,9,J⟩) f).trans c9
 have a3:=Y f d.size
 have g:=ze d
 clear c0 c1 c2 c3 c4 c5 F c7 c8 c9 d
 have r:Nonempty (zm y.1.size y):=zm.some _ _
 have q:=fun(u:zm y.1.size y) b o h=>u.cell b o h
 refine zh y.1.size (by kernel_rfl) (by kernel_rfl) ?_
 repeat(go_big_quiet_step (first
  |(go_at_call 33;exact Calls.later (Q _) (ud (HU _ ((ud g).trans (Below.mono (Subtype.property _) (ud g).size)))))
  |(go_at_call 115;exact Calls.later (Q _) (ud (A _ ((ud g).trans (Below.mono (Subtype.property _) (ud g).size)))))
  |(go_at_call 75;exact Calls.later (Q _) (ud (HQ _)))))
 refine wpQuiet_nil ?_
 rintro⟨w2,j⟩
 dsimp only
 clear q r
 have D:=ze ((ud g).trans (j.mono (ud g).size))
 clear j d0 d1 d2 d3 d4 d5 d6 d7 d8 d9
 go_wp2_with fail
 go_ret
 exact⟨rfl,ud D⟩
theorem zjy{w:World}{i:Ids}{c:Cf}{ep:Int}{m:MS}(h:zy w i c ep m)(B:c.ok)(se tm val:Int)(q:0<=se/\se<4)(r:0<=tm/\tm<=m.now)(ah:m.now-c.la<=tm)(a8:m.now<=100000)(N: -2147483648<=val/\val<=2147483647)(hu:0<=xg m.L/\xg m.L<=1000)(G:zgu m.L)(F:∀k:Nat,k<c.n->zV m.Gl (qs c se tm k)=J)(ad:xg m.L+(1+2*yh c m.L ⟨se,tm,val⟩ c.n)<=c.qu)(z:m.L.length<=1000000)(a3:∀p∈m.L,p.1.t= -1->p.2.cl.small):
  Calls prog 59 #[.pointer (K ⟨i.x,0,J⟩),I O se,I O tm,I E val] w fun e w'=>e=.returned (I O 0)/\zy w' i c ep {m with L:=kJ c m.L ⟨se,tm,val⟩}/\zk (fun k=>k=i.lb) w w':=by
 obtain⟨a,cap,a7,a6⟩:=h.ts
 obtain⟨c0,c1,c2,c3,c4,c5,c6,c7,c8,c9,-⟩:=h.cells
 rw[a7]at c6
 have g:=h.lt
 obtain⟨ak,al⟩:=B.qu
 obtain⟨af,ag⟩:=B.la
 have ai:=vu c m.L ⟨se,tm,val⟩ c.n
 have aj:=B.n4
 have HU:=fun W hW=>ze (Xj ((h.later (w':=W) hW).set) (by unfold yS;omega))
 have S:=fun W hW=>ze (JH ((h.later (w':=W) hW).set) B se tm val q ⟨r.1,by omega⟩ G F)
 have HQ:=fun W=>ze (XK c a cap W)
 have X:=fun W=>ze (Qz c a cap W)
 have T:=fun W=>ze (vM se W q)
 obtain⟨am,an⟩:=hu
 have ae:decide (c.qu<xg m.L+(1+2*yh c m.L ⟨se,tm,val⟩ c.n))=false:=by simp;omega
 have aa:decide (tm<0)=false:=by simp;omega
 have ab:decide (m.now<tm)=false:=by simp;omega
 have ac:decide (tm<m.now-c.la)=false:=by simp;omega
 have H:=ze h
 generalize a2:xg m.L=U at*
 generalize a1:yh c m.L ⟨se,tm,val⟩ c.n=M at*
 obtain⟨a4,a5⟩:=r
 have r:0<=tm/\tm<=m.now:=⟨a4,a5⟩
 clear h a6 a2 a1
 go_enter func59,ntmps59
 go_wp2_with(first|(go_at_call 113;refine(ud (T _)).mono ?_;rintro e W9 ⟨rfl,h9⟩;have a0:=h9.symm;subst a0))
 have D:Nonempty (zm w.1.size w):=zm.some _ _
 have C:=fun(u:zm w.1.size w) b o h=>u.cell b o h
 refine zh w.1.size (by kernel_rfl) (by kernel_rfl) ?_
 repeat(go_big_quiet_step (first
  |(go_at_call 114;exact Calls.later (Q _) (ud (X _)))))
 refine wpQuiet_nil ?_
 rintro⟨P,d⟩
 dsimp only
 clear C D
 go_wp2_with fail
 have d0:=(d.cell (p:=⟨i.x,0,J⟩) g).trans c0
 have d1:=(d.cell (p:=⟨i.x,1,J⟩) g).trans c1
 have d2:=(d.cell (p:=⟨i.x,2,J⟩) g).trans c2
 have d3:=(d.cell (p:=⟨i.x,3,J⟩) g).trans c3
 have d4:=(d.cell (p:=⟨i.x,4,J⟩) g).trans c4
 have d5:=(d.cell (p:=⟨i.x,5,J⟩) g).trans c5
 have d6:=(d.cell (p:=⟨i.x,6,J⟩) g).trans c6
 have d7:=(d.cell (p:=⟨i.x,7,J⟩) g).trans c7
 have d8:=(d.cell (p:=⟨i.x,8,J⟩) g).trans c8
 have d9:=(d.cell (p:=⟨i.x,9,J⟩) g).trans c9
 have a9:=Y g d.size
 have j:=ze d
 clear c0 c1 c2 c3 c4 c5 c6 c7 c8 c9 d
 have y:Nonempty (zm P.1.size P):=zm.some _ _
 have v:=fun(u:zm P.1.size P) b o h=>u.cell b o h
 refine zh P.1.size (by kernel_rfl) (by kernel_rfl) ?_
 repeat(go_big_quiet_step (first
  |(go_at_call 33;exact Calls.later (Q _) (ud (HU _ ((ud j).trans (Below.mono (Subtype.property _) (ud j).size)))))
  |(go_at_call 115;exact Calls.later (Q _) (ud (S _ ((ud j).trans (Below.mono (Subtype.property _) (ud j).size)))))
  |(go_at_call 75;exact Calls.later (Q _) (ud (HQ _)))))
 refine wpQuiet_nil ?_
 rintro⟨w2,s⟩
 dsimp only
 clear v y
 have A:=ze ((ud j).trans (s.mono (ud j).size))
 clear s d0 d1 d2 d3 d4 d5 d6 d7 d8 d9
 have l:=(ud H).later (ud A)
 obtain⟨-,-,-,-,-,-,-,-,-,e9,-⟩:=l.cells
 have ao:=l.lt
 have R:=ze (zhW l.set B se tm val q ⟨r.1,by omega⟩ N G z a3 F)
 have Z:=ze l
 clear l
 go_wp2_with(first|(go_at_call 116;refine(ud R).mono ?_;rintro e V ⟨rfl,hS,hK⟩;have HS:=ze hS;have HK:=ze hK;clear hS hK))
 go_ret
 have hk:zk (fun k=>k=i.lb) w2 V:=ud HK
 exact⟨rfl,(ud Z).putSet (ud HS) (hk.mono (fun k _ e=> .inr (.inr (.inl e)))),(zk.of_below (f:=fun k=>k=i.lb) (ud A)).trans hk (fun _ _ e=>e)⟩
def qI(v:SV):Cl×Int:=if v.st=0 then(qP,10)else if v.st=2 then(qP,11)else if v.st=4 then(qP,12)else(v.cl,0)
def yo(c:Cf)(now:Int)(Gl:List (Sg×Unit))(L:LV)(t se we:Int):Cl×Int:=
 if now-c.la<(we+1)*c.wh t then(qP,9)else qI (stG Gl L ⟨t,se,we⟩)
theorem zdk{w:World}{i:Ids}{c:Cf}{ep:Int}{m:MS}(h:zy w i c ep m)(hc:c.ok)(P:0<=m.now/\m.now<=100000)(t se we:Int)(ht: -1<=t/\t<c.n)(R:0<=se/\se<4)(U:0<=we/\we<=100000):
  Calls prog 60 #[.pointer (K ⟨i.x,0,J⟩),I O t,I O se,I O we] w fun e w'=>e=.returned (.tuple #[.agg #[I O (yo c m.now m.Gl m.L t se we).1.cnt,I O (yo c m.now m.Gl m.L t se we).1.sum,I E (yo c m.now m.Gl m.L t se we).1.mn,I E (yo c m.now m.Gl m.L t se we).1.mx],I O (yo c m.now m.Gl m.L t se we).2])/\Below w.1.size w w':=by
 obtain⟨a,cap,a4,S⟩:=h.ts
 have a8:=h.lt
 have z:Below w.1.size w (w.alloc (.cells #[I O 0,I O 0,I E 0,I E 0] 114)):=(Below.refl _ _).alloc (Q _) _
 obtain⟨c0,c1,c2,c3,c4,c5,c6,-,c8,c9,-⟩:=(h.later z).cells
 rw[a4]at c6
 have s:=ze z
 have d:=ze (zo w (.cells #[I O 0,I O 0,I E 0,I E 0] 114))
 have b:w.1.size<(w.alloc (.cells #[I O 0,I O 0,I E 0,I E 0] 114)).1.size:=by rw[zF];omega
 have r:i.x<(w.alloc (.cells #[I O 0,I O 0,I E 0,I E 0] 114)).1.size:=by rw[zF];omega
 have HH:=ze (zbZ c hc a cap t (w.alloc (.cells #[I O 0,I O 0,I E 0,I E 0] 114)))
 have a6:=hc.n4
 rw[show inB t (-1) ((c.n:Int)-1)=true from by rw[qq];omega]at HH
 have HS:=fun W=>ze (vM se W R)
 have a9:decide (we<0)=false:=by simp;omega
 have aa:decide (100000<we)=false:=by simp;omega
 have X:=fun(W:World) (hb:Below (w.alloc (.cells #[I O 0,I O 0,I E 0,I E 0] 114)).1.size (w.alloc (.cells #[I O 0,I O 0,I E 0,I E 0] 114)) W)=>ze (Yi c hc a cap t we m.now ht.1 ht.2 U P W.drew (S.below (z.trans (hb.mono z.size)).drew))
 have T:(⟨t,se,we⟩:Sg).wf:=by refine⟨?_,?_,?_⟩<;>unfold yS<;>simp only<;>omega
 have M:=fun(W:World) (hb:Below (w.alloc (.cells #[I O 0,I O 0,I E 0,I E 0] 114)).1.size (w.alloc (.cells #[I O 0,I O 0,I E 0,I E 0] 114)) W)=>ze (JI ((h.later z).later hb).set ⟨t,se,we⟩ T)
 have K9:=c9
 clear z h S T
 by_cases Z:m.now-c.la<(we+1)*c.wh t
 case' pos=>
  rw[show yo c m.now m.Gl m.L t se we=(qP,9)from by unfold yo;rw[if_pos Z]]
  rw[show decide ((we+1)*c.wh t<=m.now-c.la)=false from by simp;omega]at X
  clear Z
 case' neg=>
  rw[show yo c m.now m.Gl m.L t se we=qI (stG m.Gl m.L ⟨t,se,we⟩)from by unfold yo;rw[if_neg Z]]
  rw[show decide ((we+1)*c.wh t<=m.now-c.la)=true from by simp;omega]at X
  unfold clV at M
  dsimp only at M
  generalize stG m.Gl m.L ⟨t,se,we⟩=v at*
  clear Z
  by_cases A:v.st=0
  case' pos=>
   rw[show qI v=(qP,10)from by unfold qI;rw[if_pos A]]
   have q6:(v.st==0)=true:=by simp[A]
   clear A
  case' neg=>
   have q6:(v.st==0)=false:=by simp[A]
   by_cases G:v.st=2
   case' pos=>
    rw[show qI v=(qP,11)from by unfold qI;rw[if_neg A,if_pos G]]
    have q7:(v.st==2)=true:=by simp[G]
    clear A G
   case' neg=>
    have q7:(v.st==2)=false:=by simp[G]
    by_cases H:v.st=4
    case' pos=>
     rw[show qI v=(qP,12)from by unfold qI;rw[if_neg A,if_neg G,if_pos H]]
     have q8:(v.st==4)=true:=by simp[H]
     clear A G H
    case' neg=>
     have q8:(v.st==4)=false:=by simp[H]
     rw[show qI v=(v.cl,0)from by unfold qI;rw[if_neg A,if_neg G,if_neg H]]
     clear A G H
 all_goals
  go_enter func60,ntmps60
  go_wp2_with(first|(go_at_call 117;refine(ud HH).mono ?_;rintro e w1 ⟨rfl,f⟩;have m0:=(f.cell (p:=⟨i.x,0,J⟩) r).trans c0;have m1:=(f.cell (p:=⟨i.x,1,J⟩) r).trans c1;have m2:=(f.cell (p:=⟨i.x,2,J⟩) r).trans c2;have m3:=(f.cell (p:=⟨i.x,3,J⟩) r).trans c3;have m4:=(f.cell (p:=⟨i.x,4,J⟩) r).trans c4;have m5:=(f.cell (p:=⟨i.x,5,J⟩) r).trans c5;have m6:=(f.cell (p:=⟨i.x,6,J⟩) r).trans c6;have m8:=(f.cell (p:=⟨i.x,8,J⟩) r).trans c8;have m9:=(f.cell (p:=⟨i.x,9,J⟩) r).trans c9;obtain⟨y0,y1,y2,y3,-⟩:=zc (((f.block w.1.size b).trans (ud d)));have yf:=fun j=>zD ((f.block w.1.size b).trans (ud d)) j;have C:=ze f)|(go_at_call 113;refine(ud (HS _)).mono ?_;rintro e W9 ⟨rfl,h9⟩;have a2:=h9.symm;subst a2))
  have a0:=X w1 (ud C)
  have a5:=Y r (ud C).size
  clear y0 y1 y2 y3 yf f c0 c1 c2 c3 c4 c5 c6 c8 c9 X HS HH
  refine xH 10 (by kernel_rfl) (by kernel_rfl) ?_
  simp only[List.take_succ_cons,List.take_zero,List.drop_succ_cons,List.drop_zero]
  repeat still_step
  refine wpStill_nil ?_
  go_wp2_with(first|(go_at_call 118;refine(ud a0).mono ?_;rintro e w3 ⟨rfl,a3⟩;have y:Below _ _ w3:=(ud C).trans ((ziX a3).mono (ud C).size);have n9:=(y.cell (p:=⟨i.x,9,J⟩) r).trans K9;obtain⟨y0,y1,y2,y3,-⟩:=zc (((y.block w.1.size b).trans (ud d)));have yf:=fun j=>zD ((y.block w.1.size b).trans (ud d)) j;have u:=ze y))
 rotate_right
 ·clear M
  have D:=((ud u).block w.1.size b).trans (ud d)
  have F:=Qs D (I O 0) (I O 0) (I E 0) (I E 0)
  refine bodyPost_ret (v:=.tuple #[.agg #[I O 0,I O 0,I E 0,I E 0],I O 9]) (zj results60 _ _ w.1.size _ _ _ _ _ rfl rfl F underlying114 rfl (by kernel_rfl)) rfl ?_
  exact⟨rfl,(ud s).trans (((ud u).mono (ud s).size).trans (below4 (Q _) _ _ _ _))⟩
 all_goals
  have a1:=M w3 (ud u)
  clear M y0 y1 y2 y3 yf
  refine(ud a1).mono ?_
  rintro e V ⟨rfl,N⟩
  have l:=(ud u).trans (N.mono (ud u).size)
  obtain⟨y0,-⟩:=zc (((l.block w.1.size b).trans (ud d)))
  obtain⟨-,y1,-⟩:=zc (((l.block w.1.size b).trans (ud d)))
  obtain⟨-,-,y2,-⟩:=zc (((l.block w.1.size b).trans (ud d)))
  obtain⟨-,-,-,y3,-⟩:=zc (((l.block w.1.size b).trans (ud d)))
  have yf:=fun j=>zD ((l.block w.1.size b).trans (ud d)) j
  have a7:w.1.size<V.1.size:=Y b l.size
  have k:=ze l
  clear N l
  go_wp2_with fail
 ·skip
  have D:=((ud k).block w.1.size b).trans (ud d)
  have q:=Qs D (I O v.cl.cnt) (I O v.cl.sum) (I E v.cl.mn) (I E v.cl.mx)
  have F:=(Below.heap_alloc _ (.cells #[I O v.cl.cnt,I O v.cl.sum,I E v.cl.mn,I E v.cl.mx] 114) _ (zd q)).trans q
  have o:=(ud s).trans (((ud k).mono (ud s).size).trans (below4 (w:=V) (g:=w.1.size) (B:=w.1.size) (Q _) (I O v.cl.cnt) (I O v.cl.sum) (I E v.cl.mn) (I E v.cl.mx)))
  refine bodyPost_ret (v:=.tuple #[.agg #[I O v.cl.cnt,I O v.cl.sum,I E v.cl.mn,I E v.cl.mx],I O 0]) (zj results60 _ _ w.1.size _ _ _ _ _ rfl rfl F underlying114 rfl (by kernel_rfl)) rfl ?_
  exact⟨rfl,o.alloc o.size _⟩
 ·skip
  have D:=((ud k).block w.1.size b).trans (ud d)
  have q:=Qs D (I O 0) (I O 0) (I E 0) (I E 0)
  have F:=(Below.heap_alloc _ (.cells #[I O v.cl.cnt,I O v.cl.sum,I E v.cl.mn,I E v.cl.mx] 114) _ (zd q)).trans q
  have o:=(ud s).trans (((ud k).mono (ud s).size).trans (below4 (w:=V) (g:=w.1.size) (B:=w.1.size) (Q _) (I O 0) (I O 0) (I E 0) (I E 0)))
  refine bodyPost_ret (v:=.tuple #[.agg #[I O 0,I O 0,I E 0,I E 0],I O 12]) (zj results60 _ _ w.1.size _ _ _ _ _ rfl rfl F underlying114 rfl (by kernel_rfl)) rfl ?_
  exact⟨rfl,o.alloc o.size _⟩
 ·skip
  have D:=((ud k).block w.1.size b).trans (ud d)
  have q:=Qs D (I O 0) (I O 0) (I E 0) (I E 0)
  have F:=(Below.heap_alloc _ (.cells #[I O v.cl.cnt,I O v.cl.sum,I E v.cl.mn,I E v.cl.mx] 114) _ (zd q)).trans q
  have o:=(ud s).trans (((ud k).mono (ud s).size).trans (below4 (w:=V) (g:=w.1.size) (B:=w.1.size) (Q _) (I O 0) (I O 0) (I E 0) (I E 0)))
  refine bodyPost_ret (v:=.tuple #[.agg #[I O 0,I O 0,I E 0,I E 0],I O 11]) (zj results60 _ _ w.1.size _ _ _ _ _ rfl rfl F underlying114 rfl (by kernel_rfl)) rfl ?_
  exact⟨rfl,o.alloc o.size _⟩
 ·skip
  have D:=((ud k).block w.1.size b).trans (ud d)
  have q:=Qs D (I O 0) (I O 0) (I E 0) (I E 0)
  have F:=(Below.heap_alloc _ (.cells #[I O v.cl.cnt,I O v.cl.sum,I E v.cl.mn,I E v.cl.mx] 114) _ (zd q)).trans q
  have o:=(ud s).trans (((ud k).mono (ud s).size).trans (below4 (w:=V) (g:=w.1.size) (B:=w.1.size) (Q _) (I O 0) (I O 0) (I E 0) (I E 0)))
  refine bodyPost_ret (v:=.tuple #[.agg #[I O 0,I O 0,I E 0,I E 0],I O 10]) (zj results60 _ _ w.1.size _ _ _ _ _ rfl rfl F underlying114 rfl (by kernel_rfl)) rfl ?_
  exact⟨rfl,o.alloc o.size _⟩
end Go.Proofs.YtpbimdkclnekeaaGreat
