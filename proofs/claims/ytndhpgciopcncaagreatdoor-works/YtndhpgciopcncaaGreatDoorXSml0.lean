import Derived.Test.YtndhpgciopcncaaGreatDoorXPck2
import Derived.Test.YtndhpgciopcncaaGreatDoorXMlz0
import Derived.Test.YtndhpgciopcncaaGreatDoorXApp0
import Derived.Test.YtndhpgciopcncaaGreatDoorXMod3
open Option renaming some → J
open Option renaming none → K
set_option linter.unusedVariables false
namespace Go.Proofs.YtndhpgciopcncaaGreatDoor
open Go.RowKit Go.Maps Go.Shelf
variable {c:Cf} {ep kind:Int} {p:Jk×Tsk} {TL TL':List (Jk×Tsk)} {QL QL':List (Tok×Lse)} {l out:List Tk} {ts:List Tsk} {g:Lse} {m:MS} {j:Nat} {r:RM} {s:Sg} {q:Tok×Lse} {x x':Tsk}
def ko(QL:List (Tok×Lse))(x:Tsk):Tk:=⟨x.kd,x.s,x.si,x.tc,x.rest,(jG QL x).1.ep,(jG QL x).1.num,(jG QL x).2.1,(jG QL x).2.2⟩
theorem zpP(QL:List (Tok×Lse))(x:Tsk):TkT (ko QL x) x:=⟨rfl,rfl,rfl⟩
def zdW(k:Tk):Tsk:=⟨decide (k.kind=1),k.s,k.si,k.tc,k.rest⟩
theorem kJ(QL:List (Tok×Lse))(x:Tsk):zdW (ko QL x)=x:=by
 obtain⟨rl,s,a,b,d⟩:=x;unfold zdW ko;cases rl<;>rfl
theorem zov(g:∀q∈QL,0<=q.2.slot)(x:Tsk):decide ((ko QL x).slot<0)=!vg QL x.key:=by
 show decide ((jG QL x).2.1<0)=_;unfold jG vg;cases c:QL.find? (fun p=>decide (p.2.job=x.key))with
 |none=>
  have b:QL.any (fun p=>decide ((⟨p.2.kd,p.2.s⟩:Jk)=x.key))=false:=by
   rw[List.any_eq_false];intro q a e;have d:q.2.job=x.key:=of_decide_eq_true e;exact List.find?_eq_none.1 c q a (decide_eq_true d)
  rw[b];rfl
 |some q=>
  have a:=List.mem_of_find?_eq_some c
  have f:=List.find?_some c
  have b:QL.any (fun p=>decide ((⟨p.2.kd,p.2.s⟩:Jk)=x.key))=true:=List.any_eq_true.2 ⟨q,a,decide_eq_true (show(⟨q.2.kd,q.2.s⟩:Jk)=x.key from of_decide_eq_true f)⟩
  rw[b]
  have:=g q a
  simpa using this
theorem JS(a:∀q∈QL,0<=q.2.slot)(x:Tsk):r.freeT (ko QL x)=kO QL r.now x:=by
 unfold RM.freeT kO;rw[zov a,Bool.and_comm];rfl
def xI(TL:List (Jk×Tsk))(QL:List (Tok×Lse))(l:List Tk):Prop:=∃ts:List Tsk,ts.Perm (TL.map (·.2))/\ts.Pairwise (fun a b=>¬yh b a<0)/\l=ts.map (ko QL)
theorem xI.mem(h:xI TL QL l)(k:Tk):k∈l↔∃p∈TL,k=ko QL p.2:=by
 obtain⟨ts,b,-,rfl⟩:=h;rw[List.mem_map];constructor
 ·rintro⟨x,c,rfl⟩;obtain⟨p,a,rfl⟩:=List.mem_map.1 (b.mem_iff.1 c);exact⟨p,a,rfl⟩
 ·rintro⟨p,a,rfl⟩;exact⟨p.2,b.mem_iff.2 (List.mem_map.2 ⟨p,a,rfl⟩),rfl⟩
section
variable {c:Cf} {ep:Int} {m:MS} {r:RM}
theorem pick_idle(e:xI m.TL m.QL r.tg)(hn:r.now=m.now)(d:∀q∈m.QL,0<=q.2.slot)(h:∀p∈m.TL,kO m.QL m.now p.2=false):r.bestI r.tg.length=K:=by
 cases b:r.bestI r.tg.length with
 |none=>rfl
 |some j=>
  obtain⟨-,x,f,a⟩:=XW r _ b;obtain⟨p,c,rfl⟩:=(e.mem x).1 (List.mem_of_getElem? f);rw[JS d,hn,h p c]at a;cases a
theorem zjh(d:MOk c ep m)(F:r.c=c)(t:xI m.TL m.QL r.tg)(hn:r.now=m.now)(u:r.tight=ka (xh m.L) c.qu)(z:∀q∈m.QL,0<=q.2.slot)(n:p∈m.TL)(G:kO m.QL m.now p.2=true)(I:YW c m.now (ka (xh m.L) c.qu) m.QL m.TL p.2):
  ∃j,r.bestI r.tg.length=J j/\r.tg[j]?=J (ko m.QL p.2):=by
 have e:=(t.mem (ko m.QL p.2)).2 ⟨p,n,rfl⟩;obtain⟨i,h,l⟩:=List.getElem_of_mem e;have b:r.tg[i]?=J (ko m.QL p.2):=by rw[List.getElem?_eq_getElem h,l]
 have a:r.freeT (ko m.QL p.2)=true:=by rw[JS z,hn];exact G
 cases g:r.bestI r.tg.length with
 |none=>
  have:=QG _ g i _ h b;rw[this]at a;cases a
 |some j=>
  obtain⟨-,x,v,w⟩:=XW r _ g;obtain⟨q,o,rfl⟩:=(t.mem x).1 (List.mem_of_getElem? v);refine⟨j,rfl,?_⟩;have y:=jQ zdW (fun k H=>by
   obtain⟨M,s,rfl⟩:=(t.mem k).1 H;rw[kJ];exact⟨zpP _ _,by rw[hn];exact(d.tg M s).si.2⟩) r.tg.length j _ g v i _ h b a
  rw[kJ,kJ,F,hn,u]at y;have E:=I q o (by rw[<-hn,<-JS z];exact w);obtain⟨A,B⟩:=zof _ _ _ _ _ y E;have D:p.1=q.1:=by
   rw[(d.tg p n).key,(d.tg q o).key];unfold Tsk.key;rw[A,B]
  have C:zU m.TL p.1=J p.2:=xF d.nt n;have f:zU m.TL q.1=J q.2:=xF d.nt o;rw[<-D,C]at f;injection f with f;rw[v,f]
end
theorem JQ(h:QL.find? (fun p=>decide (p.2.job=x.key))=J q):q.2.job=x.key:=by
 have:=List.find?_some h;exact of_decide_eq_true this
theorem Qe(g:(QL.map (fun q=>q.2.job)).Nodup)(c:q∈QL)(e:q.2.job=x.key):jG QL x=(q.1,q.2.slot,q.2.til):=by
 unfold jG;cases a:QL.find? (fun p=>decide (p.2.job=x.key))with
 |none=>exact absurd (decide_eq_true e) (List.find?_eq_none.1 a q c)
 |some b=>
  have d:=List.mem_of_find?_eq_some a
  have f:b.2.job=x.key:=JQ a
  have:b=q:=yM g b d q c (f.trans e.symm)
  subst this
  rfl
theorem Zu(h:∀q∈QL,q.2.job≠x.key):jG QL x=(⟨0,0⟩,-1,0):=by
 unfold jG;cases a:QL.find? (fun p=>decide (p.2.job=x.key))with
 |none=>rfl
 |some q=>exact absurd (JQ a) (h q (List.mem_of_find?_eq_some a))
theorem ZL(QL:List (Tok×Lse))(x:Tsk):(∃q∈QL,q.2.job=x.key/\jG QL x=(q.1,q.2.slot,q.2.til))\/((∀q∈QL,q.2.job≠x.key)/\jG QL x=(⟨0,0⟩,-1,0)):=by
 unfold jG;cases a:QL.find? (fun p=>decide (p.2.job=x.key))with
 |none=>exact .inr ⟨fun q b e=>List.find?_eq_none.1 a q b (decide_eq_true e),rfl⟩
 |some q=>exact .inl ⟨q,List.mem_of_find?_eq_some a,JQ a,rfl⟩
section
variable {c:Cf} {ep:Int} {m:MS} {r:RM}
theorem MOk.leased(a:MOk c ep m)(e:q∈m.QL):∃p∈m.TL,p.2.key=q.2.job/\jG m.QL p.2=(q.1,q.2.slot,q.2.til):=by
 obtain⟨x,f,-⟩:=(a.leas q e).job;have d:=zP f;have b:=(a.tg _ d).key;exact⟨_,d,b.symm,Qe a.jobs e b⟩
theorem K6(i:MOk c ep m)(g:xI m.TL m.QL r.tg)(slot:Int)(j:0<=slot):r.tg.any (fun x=>x.slot==slot)=m.QL.any (fun p=>p.2.slot==slot):=by
 rw[Bool.eq_iff_iff,List.any_eq_true,List.any_eq_true];constructor
 ·rintro⟨k,h,d⟩;obtain⟨p,f,rfl⟩:=(g.mem k).1 h;have a:(jG m.QL p.2).2.1=slot:=by simpa[ko]using d
  rcases ZL m.QL p.2 with⟨q,b,-,e⟩|⟨-,e⟩
  ·rw[e]at a;exact⟨q,b,by simpa using a⟩
  ·rw[e]at a;simp only at a;omega
 ·rintro⟨q,b,d⟩;obtain⟨p,f,-,e⟩:=i.leased b;exact⟨ko m.QL p.2,(g.mem _).2 ⟨p,f,rfl⟩,by simpa[ko,e]using d⟩
theorem JW(k:∀q∈m.QL,0<=q.2.slot)(j:(m.QL.map (fun q=>q.2.job)).Nodup)(x:Tsk)(e n:Int):(ko m.QL x).holds e n=true↔∃q∈m.QL,q.1=⟨e,n⟩/\q.2.job=x.key:=by
 unfold Tk.holds ko;simp only[Bool.and_eq_true,decide_eq_true_eq];rcases ZL m.QL x with⟨q,i,g,f⟩|⟨hn,f⟩
 ·rw[f];simp only;constructor
  ·rintro⟨-,c,b⟩;refine⟨q,i,?_,g⟩;obtain⟨⟨_,_⟩,_⟩:=q;simp only at c b ⊢;rw[c,b]
  ·rintro⟨d,a,c,b⟩;have:d=q:=yM j d a q i (b.trans g.symm);subst this;exact⟨k d a,by rw[c],by rw[c]⟩
 ·rw[f];simp only;constructor
  ·rintro⟨h,-⟩;omega
  ·rintro⟨d,a,-,b⟩;exact absurd b (hn d a)
theorem VT(a:MOk c ep m)(j:xI m.TL m.QL r.tg)(i:∀q∈m.QL,0<=q.2.slot)(e n:Int)(h:zU m.QL ⟨e,n⟩=K):r.tg.findIdx? (Tk.holds e n)=K:=by
 rw[List.findIdx?_eq_none_iff];intro k f;obtain⟨p,l,rfl⟩:=(j.mem k).1 f;cases d:(ko m.QL p.2).holds e n with
 |false=>rfl
 |true=>
  obtain⟨q,g,b,-⟩:=(JW i a.jobs p.2 e n).1 d;have:zU m.QL q.1=J q.2:=xF a.nq g;rw[b,h]at this;cases this
theorem QP(a:MOk c ep m)(v:xI m.TL m.QL r.tg)(u:∀q∈m.QL,0<=q.2.slot)(e n:Int)(h:zU m.QL ⟨e,n⟩=J g)(w:zU m.TL g.job=J x):∃j,r.tg.findIdx? (Tk.holds e n)=J j/\r.tg[j]?=J (ko m.QL x):=by
 have E:=zP h;have t:=zP w;have D:=(a.tg _ t).key;have C:(ko m.QL x).holds e n=true:=(JW u a.jobs x e n).2 ⟨_,E,rfl,D⟩;cases p:r.tg.findIdx? (Tk.holds e n)with
 |none=>
  have:=List.findIdx?_eq_none_iff.1 p _ ((v.mem _).2 ⟨_,t,rfl⟩)
  rw[C]at this;cases this
 |some j=>
  obtain⟨s,o,-⟩:=List.findIdx?_eq_some_iff_getElem.1 p
  refine⟨j,rfl,?_⟩
  obtain⟨d,b,l⟩:=(v.mem _).1 (List.getElem_mem s)
  rw[l]at o
  obtain⟨y,k,z,A⟩:=(JW u a.jobs d.2 e n).1 o
  have f:zU m.QL y.1=J y.2:=xF a.nq k
  rw[z,h]at f
  injection f with f
  have B:d.1=g.job:=by rw[(a.tg d b).key,<-A,f]
  have i:zU m.TL d.1=J d.2:=xF a.nt b
  rw[B,w]at i
  injection i with i
  rw[List.getElem?_eq_getElem s,l,i]
end
theorem QO(d:(QL.map (fun q=>q.2.job)).Nodup)(c:(QL'.map (fun q=>q.2.job)).Nodup)(h:∀q,q.2.job=x.key->(q∈QL↔q∈QL')):jG QL x=jG QL' x:=by
 rcases ZL QL x with⟨q,b,a,e⟩|⟨hn,e⟩
 ·rw[e,Qe c ((h q a).1 b) a]
 ·rw[e,Zu (fun q b a=>hn q ((h q a).2 b) a)]
theorem jM(h:jG QL x=jG QL' x):ko QL x=ko QL' x:=by
 unfold ko;rw[h]
theorem zmy{y:Tsk}(h:ko QL x=ko QL y):x=y:=by
 have:=congrArg zdW h;rwa[kJ,kJ]at this
theorem Yg(g:ts.Nodup)(a:(ts.map (ko QL))[j]?=J (ko QL x))(f:Tk->Tk)(n:f (ko QL x)=ko QL' x')(p:∀y∈ts,y≠x->ko QL y=ko QL' y):ts[j]?=J x/\(ts.map (ko QL)).modify j f=(ts.set j x').map (ko QL'):=by
 have k:ts[j]?=J x:=by
  rw[List.getElem?_map]at a;cases h:ts[j]? with
  |none=>rw[h]at a;cases a
  |some y=>rw[h]at a;injection a with a;rw[zmy a]
 refine⟨k,?_⟩;obtain⟨c,d⟩:=List.getElem?_eq_some_iff.1 k;apply List.ext_getElem?;intro i;rw[List.getElem?_modify,List.getElem?_map,List.getElem?_map,List.getElem?_set];by_cases e:j=i
 ·subst e;rw[k];simp[c,n]
 ·rw[if_neg e];cases m:ts[i]? with
  |none=>simp[e]
  |some y=>
   have l:y≠x:=fun h=>by
    subst h;obtain⟨o,b⟩:=List.getElem?_eq_some_iff.1 m;exact e ((List.getElem_inj g).1 (d.trans b.symm))
   simp[e,p y (List.mem_of_getElem? m) l]
theorem jn{α β:Type}{f:α->β}:∀{l:List α},(l.map f).Nodup->l.Nodup
 |[],_=>List.nodup_nil
 |a::l,h=>by
  rw[List.map_cons,List.nodup_cons]at h;exact List.nodup_cons.2 ⟨fun b=>h.1 (List.mem_map.2 ⟨a,b,rfl⟩),jn h.2⟩
theorem xI.nodup(b:MOk c ep m)(a:ts.Perm (m.TL.map (·.2))):ts.Nodup:=by
 rw[a.nodup_iff];have d:((m.TL.map (·.2)).map Tsk.key).Nodup:=by
  rw[List.map_map];have e:m.TL.map (Tsk.key∘fun p:Jk×Tsk=>p.2)=zx m.TL:=by
   unfold zx;apply List.map_congr_left;intro p a;exact(b.tg p a).key.symm
  rw[e];exact b.nt
 exact jn d
theorem xI.taken(b:MOk c ep m)(h:xI m.TL m.QL l)(u:(QL'.map (fun q=>q.2.job)).Nodup){t:Tok}(v:p∈m.TL){slot til:Int}(hn:∀q∈m.QL,q.2.job≠p.2.key)(w:∀q,q∈QL'↔q=(t,⟨p.2.kd,p.2.s,slot,til⟩)\/q∈m.QL)(B:l[j]?=J (ko m.QL p.2)):xI m.TL QL' (l.modify j (Tk.leased t.ep t.num slot til)):=by
 obtain⟨ts,a,D,rfl⟩:=h;have d:(⟨p.2.kd,p.2.s,slot,til⟩:Lse).job=p.2.key:=rfl;have o:jG QL' p.2=(t,slot,til):=Qe u (q:=(t,⟨p.2.kd,p.2.s,slot,til⟩)) ((w _).2 (.inl rfl)) d;obtain⟨E,A⟩:=Yg (QL':=QL') (x':=p.2) (xI.nodup b a) B (Tk.leased t.ep t.num slot til) (by unfold Tk.leased ko;rw[o]) (fun y F r=>jM (QO b.jobs u (fun q C=>by
  rw[w];constructor
  ·exact .inr
  ·rintro(rfl|h)
   ·exfalso;obtain⟨i,e,rfl⟩:=List.mem_map.1 (a.mem_iff.1 F);have z:i.1=p.1:=(by rw[(b.tg i e).key,(b.tg p v).key];exact C.symm);have x:zU m.TL p.1=J p.2:=xF b.nt v;have g:zU m.TL i.1=J i.2:=xF b.nt e;rw[z,x]at g;injection g with g;exact r g.symm
   ·exact h)))
 rw[A];obtain⟨k,n⟩:=List.getElem?_eq_some_iff.1 E;have f:ts.set j p.2=ts:=by rw[<-n];exact List.set_getElem_self k
 rw[f];exact⟨ts,a,D,rfl⟩
def zaM(x x' z:Tsk):Tsk:=if z.key=x.key then x' else z
theorem zfh(h:x'.kd=x.kd/\x'.s=x.s)(z:Tsk):(zaM x x' z).kd=z.kd/\(zaM x x' z).s=z.s:=by
 unfold zaM;split
 ·rename_i e;unfold Tsk.key at e;injection e with a b;exact⟨h.1.trans a.symm,h.2.trans b.symm⟩
 ·exact⟨rfl,rfl⟩
theorem zmu(f:(ts.map Tsk.key).Nodup)(k:ts[j]?=J x):ts.set j x'=ts.map (zaM x x'):=by
 obtain⟨a,d⟩:=List.getElem?_eq_some_iff.1 k;apply List.ext_getElem?;intro i;rw[List.getElem?_set,List.getElem?_map];by_cases e:j=i
 ·subst e;rw[k];simp[a,zaM]
 ·rw[if_neg e];cases l:ts[i]? with
  |none=>rfl
  |some y=>
   have g:¬y.key=x.key:=fun h=>by
    obtain⟨b,c⟩:=List.getElem?_eq_some_iff.1 l;have a1:(ts.map Tsk.key)[j]'(by simpa using a)=(ts.map Tsk.key)[i]'(by simpa using b):=(by simp[d,c,h]);exact e ((List.getElem_inj f).1 a1)
   simp[zaM,g]
theorem xI.failed(g:MOk c ep m)(h:xI m.TL m.QL l){k:Jk}(M:zU m.TL k=J x)(i:x'.kd=x.kd/\x'.s=x.s)(D:(QL'.map (fun q=>q.2.job)).Nodup)(I:∀q,q∈QL'↔q∈m.QL/\q.2.job≠x.key)(f:Tk->Tk)(F:f (ko m.QL x)=ko QL' x')(G:l[j]?=J (ko m.QL x)):xI (qM m.TL k x') QL' (l.modify j f):=by
 obtain⟨ts,d,L,rfl⟩:=h;have r:=zP M;have o:k=x.key:=(g.tg _ r).key;have n:(ts.map Tsk.key).Nodup:=by
  have C:((m.TL.map (·.2)).map Tsk.key).Nodup:=by
   rw[List.map_map];have e:m.TL.map (Tsk.key∘fun p:Jk×Tsk=>p.2)=zx m.TL:=by
    unfold zx;apply List.map_congr_left;intro p r;exact(g.tg p r).key.symm
   rw[e];exact g.nt
  exact((d.map Tsk.key).nodup_iff).2 C
 obtain⟨z,E⟩:=Yg (QL':=QL') (x':=x') (xI.nodup g d) G f F (fun y N v=>jM (QO g.jobs D (fun q H=>by
  rw[I];constructor
  ·refine fun h=>⟨h,fun e=>?_⟩;apply v;exact yM n y N x (d.mem_iff.2 (List.mem_map.2 ⟨_,r,rfl⟩)) (H.symm.trans e)
  ·exact fun h=>h.1)))
 rw[E,zmu n z];refine⟨ts.map (zaM x x'),?_,?_,rfl⟩
 ·have e:(qM m.TL k x').map (·.2)=(m.TL.map (·.2)).map (zaM x x'):=by
   unfold qM;have u:k∈zx m.TL:=List.mem_map.2 ⟨_,r,rfl⟩;rw[if_pos u,List.map_map,List.map_map];apply List.map_congr_left;intro p w;have t:=(g.tg p w).key;simp only[Function.comp,zaM];by_cases e:p.1=k
   ·rw[if_pos e,if_pos (by rw[<-t,e,o])]
   ·rw[if_neg e,if_neg (fun h=>e (by rw[t,h,o]))]
  rw[e];exact d.map _
 ·rw[List.pairwise_map];refine L.imp (fun{a b} h=>?_);have A:=zfh i a;have B:=zfh i b;rw[qR]at h ⊢;rw[A.1,A.2,B.1,B.2];exact h
theorem zhW(d:MOk c ep m)(s:xI m.TL m.QL r.tg)(hn:r.now=m.now)(y:∀q∈m.QL,0<=q.2.slot)(e n:Int)(k:zU m.QL ⟨e,n⟩=J g)(p:zU m.TL g.job=J x):
  (r.fail e n).2=0/\(r.fail e n).1={r with tg:=(r.fail e n).1.tg}/\xI (qM m.TL g.job (x.failed m.now)) (xB m.QL ⟨e,n⟩) (r.fail e n).1.tg:=by
 obtain⟨j,t,u⟩:=QP d s y e n k p;have l:g.job=x.key:=(d.tg _ (zP p)).key;have v:r.fail e n=({r with tg:=r.tg.modify j (Tk.fail r.now)},0):=by unfold RM.fail;rw[t]
 rw[v];refine⟨rfl,rfl,?_⟩;have h:=zP k;refine xI.failed (x':=x.failed m.now) (QL':=xB m.QL ⟨e,n⟩) d s p ⟨rfl,rfl⟩ (ZM d.jobs _) (fun q=>?_) (Tk.fail r.now) ?_ u
 ·rw[xg];constructor
  ·rintro⟨a,b⟩;exact⟨a,fun f=>Zv d.jobs h (xg.2 ⟨a,b⟩) (f.trans l.symm)⟩
  ·rintro⟨a,b⟩;refine⟨a,fun f=>b ?_⟩;have i:zU m.QL q.1=J q.2:=xF d.nq a;rw[f,k]at i;injection i with i;rw[<-i,l]
 ·have o:jG (xB m.QL ⟨e,n⟩) (x.failed m.now)=(⟨0,0⟩,-1,0):=Zu (fun q w f=>Zv d.jobs h w (f.trans l.symm));rw[hn];unfold Tk.fail ko;rw[o];rfl
theorem KJ(a b:Tk):qw a b=true↔(a.kind<b.kind\/a.kind=b.kind/\(a.s.t<b.s.t\/a.s.t=b.s.t/\(a.s.se<b.s.se\/a.s.se=b.s.se/\a.s.we<b.s.we))):=by
 unfold qw;repeat' split
 all_goals(simp only[decide_eq_true_eq];omega)
theorem KK(lt:Tk->Tk->Bool)(x y:Tk):∀l:List Tk,y∈ki lt x l↔y=x\/y∈l
 |[]=>by simp[ki]
 |z::l=>by
  unfold ki;split
  ·simp
  ·rw[List.mem_cons,KK lt x y l,List.mem_cons];constructor
   ·rintro(h|h|h)
    ·exact .inr (.inl h)
    ·exact .inl h
    ·exact .inr (.inr h)
   ·rintro(h|h|h)
    ·exact .inr (.inl h)
    ·exact .inl h
    ·exact .inr (.inr h)
theorem Yp(x:Tk):∀l:List Tk,l.Pairwise (fun a b=>¬qw b a=true)->(ki qw x l).Pairwise (fun a b=>¬qw b a=true)
 |[],_=>by simp[ki]
 |z::l,h=>by
  rw[List.pairwise_cons]at h;unfold ki;split
  ·rename_i hlt;rw[List.pairwise_cons];refine⟨fun y c=>?_,List.pairwise_cons.2 h⟩;rcases List.mem_cons.1 c with rfl|c
   ·rw[KJ]at*;omega
   ·have:=h.1 y c;rw[KJ]at*;omega
  ·rename_i hlt;rw[List.pairwise_cons];refine⟨fun y c=>?_,Yp x l h.2⟩;rcases(KK _ _ _ _).1 c with rfl|c
   ·exact hlt
   ·exact h.1 y c
theorem Zx{m:RM}{l:List Sg}{k:Tk}:k∈yX m l kind out s↔(kS m kind s l=true/\k=yc m kind s)\/k∈out:=by
 unfold yX;split
 ·rename_i h;rw[KK];simp[h]
 ·rename_i h;simp[h]
theorem Yq{m:RM}{l:List Sg}(h:out.Pairwise (fun a b=>¬qw b a=true)):(yX m l kind out s).Pairwise (fun a b=>¬qw b a=true):=by
 unfold yX;split
 ·exact Yp _ _ h
 ·exact h
theorem Kn(m:RM)(l:List Sg):∀(xs:List Sg) (out:List Tk),out.Pairwise (fun a b=>¬qw b a=true)->(xs.foldl (fun out s=>yX m l 2 (yX m l 1 out s) s) out).Pairwise (fun a b=>¬qw b a=true)/\∀k,k∈xs.foldl (fun out s=>yX m l 2 (yX m l 1 out s) s) out↔k∈out\/∃s∈xs,∃kind,(kind=1\/kind=2)/\kS m kind s l=true/\k=yc m kind s
 |[],out,h=>⟨h,fun k=>by simp⟩
 |x::xs,out,h=>by
  obtain⟨e,f⟩:=Kn m l xs _ (Yq (m:=m) (l:=l) (kind:=2) (s:=x) (Yq (m:=m) (l:=l) (kind:=1) (s:=x) h));refine⟨e,fun k=>?_⟩;rw[List.foldl_cons,f,Zx,Zx];constructor
  ·rintro((⟨a,b⟩|⟨a,b⟩|a)|⟨s,c,a⟩)
   ·exact .inr ⟨x,by simp,2,.inr rfl,a,b⟩
   ·exact .inr ⟨x,by simp,1,.inl rfl,a,b⟩
   ·exact .inl a
   ·exact .inr ⟨s,by simp[c],a⟩
  ·rintro(a|⟨s,c,kind,d,a,b⟩)
   ·exact .inl (.inr (.inr a))
   ·rcases List.mem_cons.1 c with rfl|c
    ·rcases d with rfl|rfl
     ·exact .inl (.inr (.inl ⟨a,b⟩))
     ·exact .inl (.inl ⟨a,b⟩)
    ·exact .inr ⟨s,c,kind,d,a,b⟩
theorem ZD(m:RM):m.settled.tg.Pairwise (fun a b=>¬qw b a=true)/\∀k,k∈m.settled.tg↔∃s∈zV m.c m.nu,∃kind,(kind=1\/kind=2)/\kS m kind s (zV m.c m.nu)=true/\k=yc m kind s:=by
 have h:=Kn m (zV m.c m.nu) (zV m.c m.nu) [] List.Pairwise.nil;have e:m.settled.tg=(zV m.c m.nu).foldl (fun out s=>yX m (zV m.c m.nu) 2 (yX m (zV m.c m.nu) 1 out s) s) []:=by
  unfold RM.settled qt;simp only[List.take_length]
 rw[e];refine⟨h.1,fun k=>?_⟩;rw[h.2];simp
theorem Ji(lt:Tk->Tk->Bool)(x:Tk):∀l:List Tk,(ki lt x l).Perm (x::l)
 |[]=> .refl _
 |z::l=>by
  unfold ki;split
  ·exact .refl _
  ·exact((Ji lt x l).cons z).trans (.swap x z l)
theorem vW(m:RM)(kind:Int)(s:Sg):(yc m kind s).kind=kind/\(yc m kind s).s=s:=by
 unfold yc;have:∀(l:List Tk) (t:Tk),t.kind=kind/\t.s=s->(l.foldl (qE kind s) t).kind=kind/\(l.foldl (qE kind s) t).s=s:=fun l=>by
  induction l with
  |nil=>exact fun t h=>h
  |cons x l a=>
   intro t h;refine a _ ?_;unfold qE;split
   ·rename_i e;exact e
   ·exact h
 exact this _ _ ⟨rfl,rfl⟩
theorem VV(m:RM)(l:List Sg):∀(xs:List Sg) (out:List Tk),xs.Nodup->out.Nodup->(∀k∈out,k.s∉xs)->(xs.foldl (fun out s=>yX m l 2 (yX m l 1 out s) s) out).Nodup
 |[],out,_,h,_=>h
 |x::xs,out,c,h,d=>by
  rw[List.nodup_cons]at c;rw[List.foldl_cons];have b:∀(kind:Int) (o:List Tk),o.Nodup->(∀k∈o,k.s=x->k.kind≠kind)->(yX m l kind o x).Nodup:=fun kind o f a=>by
   unfold yX;split
   ·rw[(Ji _ _ _).nodup_iff,List.nodup_cons];exact⟨fun j=>a _ j (vW m kind x).2 (vW m kind x).1,f⟩
   ·exact f
  have g:=b 1 out h (fun k a e=>absurd (by simp[e]) (d k a));have i:=b 2 _ g (fun k a e=>by
   rcases Zx.1 a with⟨-,rfl⟩|a
   ·rw[(vW m 1 x).1];decide
   ·exact absurd (by simp[e]) (d k a))
  refine VV m l xs _ c.2 i (fun k a=>?_);rcases Zx.1 a with⟨-,rfl⟩|a
  ·rw[(vW m 2 x).2];exact c.1
  ·rcases Zx.1 a with⟨-,rfl⟩|a
   ·rw[(vW m 1 x).2];exact c.1
   ·exact fun e=>d k a (by simp[e])
theorem zaH(m:RM):m.settled.tg.Nodup:=by
 have e:m.settled.tg=(zV m.c m.nu).foldl (fun out s=>yX m (zV m.c m.nu) 2 (yX m (zV m.c m.nu) 1 out s) s) []:=by
  unfold RM.settled qt;simp only[List.take_length]
 rw[e];exact VV m _ _ [] (Ym _ _) List.nodup_nil (fun k a=>by cases a)
theorem xI.of_settled(c:∀p∈TL,p.1=p.2.key)(hn:(zx TL).Nodup)(m:∀p∈TL,ko QL p.2∈r.settled.tg)(i:∀k∈r.settled.tg,∃p∈TL,k=ko QL p.2):xI TL QL r.settled.tg:=by
 have g:(r.settled.tg.map zdW).map (ko QL)=r.settled.tg:=by
  rw[List.map_map]
  conv=>rhs;rw[<-List.map_id r.settled.tg]
  apply List.map_congr_left;intro k c;obtain⟨p,-,rfl⟩:=i k c;simp only[Function.comp,kJ,id]
 have j:(r.settled.tg.map zdW).Nodup:=jn (f:=ko QL) (by rw[g];exact zaH r);have l:(TL.map (·.2)).Nodup:=by
  refine jn (f:=Tsk.key) ?_;rw[List.map_map];have e:TL.map (Tsk.key∘fun p:Jk×Tsk=>p.2)=zx TL:=by
   unfold zx;apply List.map_congr_left;intro p d;exact(c p d).symm
  rw[e];exact hn
 refine⟨r.settled.tg.map zdW,?_,?_,g.symm⟩
 ·rw[List.perm_ext_iff_of_nodup j l];intro x;rw[List.mem_map,List.mem_map];constructor
  ·rintro⟨k,c,rfl⟩;obtain⟨p,d,rfl⟩:=i k c;exact⟨p,d,by rw[kJ]⟩
  ·rintro⟨p,d,rfl⟩;exact⟨_,m p d,by rw[kJ]⟩
 ·rw[List.pairwise_map];refine List.Pairwise.imp_of_mem (fun{a b} n o h=>?_) (ZD r).1;obtain⟨p,-,rfl⟩:=i a n;obtain⟨q,-,rfl⟩:=i b o;rw[kJ,kJ,qR];rw[KJ]at h;exact h
theorem zpH{T:List (Jk×Tsk)}(hn:(zx T).Nodup)(now:Int)(b:Bool)(kd:Int)(s:Sg)(k:Jk)(x:Tsk):∀a,(a=match zU T ⟨kd,s⟩with|some _=>T|none=>qM T ⟨kd,s⟩ ⟨b,s,now,0,0⟩)->((zx a).Nodup/\(zU a k=J x↔zU T k=J x\/(zU T k=K/\k=⟨kd,s⟩/\x=⟨b,s,now,0,0⟩))):=by
 rintro a rfl;split
 ·rename_i y hy;refine⟨hn,⟨.inl,?_⟩⟩;rintro(h|⟨c,d,-⟩)
  ·exact h
  ·rw[d,hy]at c;cases c
 ·rename_i hy;refine⟨qY hn,?_⟩;rw[jU hn];by_cases e:k=⟨kd,s⟩
  ·rw[if_pos e,e,hy];simp[eq_comm]
  ·rw[if_neg e];simp[e]
theorem zbo{now:Int}:∀(i:List Sg) {T:List (Jk×Tsk)},(zx T).Nodup->(zx (i.foldl (yr now) T)).Nodup/\∀k x,zU (i.foldl (yr now) T) k=J x↔zU T k=J x\/(zU T k=K/\∃s∈i,k=⟨1,s⟩/\x=⟨true,s,now,0,0⟩)
 |[],T,hn=>⟨hn,fun k x=>by simp⟩
 |y::i,T,hn=>by
  have c:=fun k x=>zpH hn now true 1 y k x (yr now T y) rfl;obtain⟨l,m⟩:=zbo i (c ⟨1,y⟩ ⟨true,y,now,0,0⟩).1;refine⟨l,fun k x=>?_⟩;rw[List.foldl_cons,m,(c k x).2];have j:zU (yr now T y) k=K↔zU T k=K/\k≠⟨1,y⟩:=by
   constructor
   ·intro h;refine⟨?_,fun e=>?_⟩
    ·cases f:zU T k with
     |none=>rfl
     |some z=>rw[(c k z).2.2 (.inl f)]at h;cases h
    ·cases f:zU T k with
     |none=>rw[(c k _).2.2 (.inr ⟨f,e,rfl⟩)]at h;cases h
     |some z=>rw[(c k z).2.2 (.inl f)]at h;cases h
   ·rintro⟨a,b⟩;cases f:zU (yr now T y) k with
    |none=>rfl
    |some z=>
     rcases(c k z).2.1 f with h|⟨-,h,-⟩
     ·rw[a]at h;cases h
     ·exact absurd h b
  rw[j];constructor
  ·rintro((a|⟨a,b,d⟩)|⟨⟨a,-⟩,s,g,b,d⟩)
   ·exact .inl a
   ·exact .inr ⟨a,y,by simp,b,d⟩
   ·exact .inr ⟨a,s,by simp[g],b,d⟩
  ·rintro(a|⟨a,s,g,b,d⟩)
   ·exact .inl (.inl a)
   ·by_cases e:k=⟨1,y⟩
    ·have:s=y:=(by rw[b]at e;injection e);subst this;exact .inl (.inr ⟨a,b,d⟩)
    ·rcases List.mem_cons.1 g with rfl|g
     ·exact absurd b e
     ·exact .inr ⟨⟨a,e⟩,s,g,b,d⟩
theorem zbn{now:Int}:∀(i:List Sg) {T:List (Jk×Tsk)},(zx T).Nodup->(zx (i.foldl (yV now) T)).Nodup/\∀k x,zU (i.foldl (yV now) T) k=J x↔zU T k=J x\/(zU T k=K/\∃s∈i,k=⟨2,s⟩/\x=⟨false,s,now,0,0⟩)
 |[],T,hn=>⟨hn,fun k x=>by simp⟩
 |y::i,T,hn=>by
  have c:=fun k x=>zpH hn now false 2 y k x (yV now T y) rfl;obtain⟨l,m⟩:=zbn i (c ⟨2,y⟩ ⟨false,y,now,0,0⟩).1;refine⟨l,fun k x=>?_⟩;rw[List.foldl_cons,m,(c k x).2];have j:zU (yV now T y) k=K↔zU T k=K/\k≠⟨2,y⟩:=by
   constructor
   ·intro h;refine⟨?_,fun e=>?_⟩
    ·cases f:zU T k with
     |none=>rfl
     |some z=>rw[(c k z).2.2 (.inl f)]at h;cases h
    ·cases f:zU T k with
     |none=>rw[(c k _).2.2 (.inr ⟨f,e,rfl⟩)]at h;cases h
     |some z=>rw[(c k z).2.2 (.inl f)]at h;cases h
   ·rintro⟨a,b⟩;cases f:zU (yV now T y) k with
    |none=>rfl
    |some z=>
     rcases(c k z).2.1 f with h|⟨-,h,-⟩
     ·rw[a]at h;cases h
     ·exact absurd h b
  rw[j];constructor
  ·rintro((a|⟨a,b,d⟩)|⟨⟨a,-⟩,s,g,b,d⟩)
   ·exact .inl a
   ·exact .inr ⟨a,y,by simp,b,d⟩
   ·exact .inr ⟨a,s,by simp[g],b,d⟩
  ·rintro(a|⟨a,s,g,b,d⟩)
   ·exact .inl (.inl a)
   ·by_cases e:k=⟨2,y⟩
    ·have:s=y:=(by rw[b]at e;injection e);subst this;exact .inl (.inr ⟨a,b,d⟩)
    ·rcases List.mem_cons.1 g with rfl|g
     ·exact absurd b e
     ·exact .inr ⟨⟨a,e⟩,s,g,b,d⟩
theorem qN.get(hn:(zx m.TL).Nodup)(t:qN c m TL'):∃(Bs:List (Sg×Unit)),(∀x,x∈zx Bs↔∃k,k∈zw m.L/\(stL m.L k).st=2/\x∈kP c k)/\(zx TL').Nodup/\∀k x,zU TL' k=J x↔zU m.TL k=J x\/(zU m.TL k=K/\∃s∈zw m.L,(jd c Bs m.L m.now s=true/\k=⟨1,s⟩/\x=⟨true,s,m.now,0,0⟩)\/(ja c m.L m.now s=true/\k=⟨2,s⟩/\x=⟨false,s,m.now,0,0⟩)):=by
 obtain⟨Bs,g,p,r,j,l,rfl⟩:=t.to;obtain⟨u,i⟩:=zbo (now:=m.now) g hn;obtain⟨v,q⟩:=zbn (now:=m.now) p u;refine⟨Bs,r,v,fun k x=>?_⟩;rw[q,i];have o:zU (g.foldl (yr m.now) m.TL) k=K↔zU m.TL k=K/\∀s∈g,k≠⟨1,s⟩:=by
  constructor
  ·intro h;have a:zU m.TL k=K:=by
    cases n:zU m.TL k with
    |none=>rfl
    |some z=>rw[(i k z).2 (.inl n)]at h;cases h
   exact⟨a,fun s f e=>by rw[(i k _).2 (.inr ⟨a,s,f,e,rfl⟩)]at h;cases h⟩
  ·rintro⟨a,b⟩;cases n:zU (g.foldl (yr m.now) m.TL) k with
   |none=>rfl
   |some z=>
    rcases(i k z).1 n with h|⟨-,s,f,e,-⟩
    ·rw[a]at h;cases h
    ·exact absurd e (b s f)
 rw[o];constructor
 ·rintro((a|⟨a,s,f,b,d⟩)|⟨⟨a,-⟩,s,f,b,d⟩)
  ·exact .inl a
  ·exact .inr ⟨a,s,((j s).1 f).1,.inl ⟨((j s).1 f).2,b,d⟩⟩
  ·exact .inr ⟨a,s,((l s).1 f).1,.inr ⟨((l s).1 f).2,b,d⟩⟩
 ·rintro(a|⟨a,s,f,⟨h,b,d⟩|⟨h,b,d⟩⟩)
  ·exact .inl (.inl a)
  ·exact .inl (.inr ⟨a,s,(j s).2 ⟨f,h⟩,b,d⟩)
  ·exact .inr ⟨⟨a,fun y _ e=>by rw[b]at e;injection e with w;omega⟩,s,(l s).2 ⟨f,h⟩,b,d⟩
theorem Xf(kind:Int)(s:Sg):∀(l:List Tk) (t:Tk),(∀x∈l,¬(x.kind=kind/\x.s=s))->l.foldl (qE kind s) t=t
 |[],t,_=>rfl
 |x::l,t,h=>by
  rw[List.foldl_cons];have e:qE kind s t x=t:=by unfold qE;rw[if_neg (h x (by simp))]
  rw[e];exact Xf kind s l t (fun y a=>h y (by simp[a]))
theorem Qa(kind:Int)(s:Sg)(x:Tk)(c:x.kind=kind/\x.s=s):∀(l:List Tk) (t:Tk),(∀y∈l,y.kind=kind/\y.s=s->y=x)->(t=x\/x∈l)->l.foldl (qE kind s) t=x
 |[],t,_,h=>by
  rcases h with h|h
  ·exact h
  ·cases h
 |y::l,t,b,h=>by
  rw[List.foldl_cons];refine Qa kind s x c l _ (fun z d=>b z (by simp[d])) ?_;by_cases a:y.kind=kind/\y.s=s
  ·have e:qE kind s t y=y:=(by unfold qE;rw[if_pos a]);exact .inl (e.trans (b y (by simp) a))
  ·have e:qE kind s t y=t:=(by unfold qE;rw[if_neg a]);rw[e];rcases h with h|h
   ·exact .inl h
   ·rcases List.mem_cons.1 h with h|h
    ·exact absurd (h▸c) a
    ·exact .inr h
section
variable {c:Cf} {ep:Int} {m:MS} {r:RM}
theorem zdU(f:MOk c ep m)(j:xI m.TL m.QL r.tg)(k:zU m.TL ⟨kind,s⟩=J x):yc r kind s=ko m.QL x:=by
 have h:=zP k;have g:(⟨kind,s⟩:Jk)=x.key:=(f.tg _ h).key;unfold Tsk.key at g;injection g with b d;unfold yc;refine Qa kind s (ko m.QL x) ⟨b.symm,d.symm⟩ _ _ (fun y n e=>?_) (.inr ((j.mem _).2 ⟨_,h,rfl⟩));obtain⟨q,i,rfl⟩:=(j.mem y).1 n;have l:q.1=⟨kind,s⟩:=by
  rw[(f.tg q i).key];unfold Tsk.key;rw[show q.2.kd=kind from e.1,show q.2.s=s from e.2]
 have a:zU m.TL q.1=J q.2:=xF f.nt i;rw[l,k]at a;injection a with a;rw[a]
theorem Vm(d:MOk c ep m)(n:xI m.TL m.QL r.tg)(hn:r.now=m.now){b:Bool}(i:zU m.TL ⟨(⟨b,s,m.now,0,0⟩:Tsk).kd,s⟩=K):yc r (⟨b,s,m.now,0,0⟩:Tsk).kd s=ko m.QL ⟨b,s,m.now,0,0⟩:=by
 have f:∀q∈m.QL,q.2.job≠(⟨b,s,m.now,0,0⟩:Tsk).key:=fun q a e=>by
  obtain⟨y,g,-⟩:=(d.leas q a).job;rw[e]at g;have:zU m.TL (⟨b,s,m.now,0,0⟩:Tsk).key=K:=i;rw[this]at g;cases g
 unfold yc;rw[Xf]
 ·unfold zdr ko;rw[Zu f,hn]
 ·intro k l e;obtain⟨q,a,rfl⟩:=(n.mem k).1 l;have j:q.1=⟨(⟨b,s,m.now,0,0⟩:Tsk).kd,s⟩:=by
   rw[(d.tg q a).key];unfold Tsk.key;rw[show q.2.kd=_ from e.1,show q.2.s=s from e.2]
  have h:zU m.TL q.1=J q.2:=xF d.nt a;rw[j,i]at h;cases h
end
section
variable {c:Cf} {ep:Int} {m:MS} {r:RM}
theorem Yv(a:MOk c ep m)(g:xI m.TL m.QL r.tg)(hn:r.now=m.now)(j:qN c m TL')(k:zU TL' ⟨kind,s⟩=J x):yc r kind s=ko m.QL x:=by
 obtain⟨Bs,-,-,i⟩:=j.get a.nt;rcases(i _ x).1 k with h|⟨h,l,-,⟨-,e,rfl⟩|⟨-,e,rfl⟩⟩
 ·exact zdU a g h
 ·injection e with d f;subst d f;exact Vm (b:=true) a g hn h
 ·injection e with d f;subst d f;exact Vm (b:=false) a g hn h
theorem zdL(w:c.ok)(x:c.fits)(n:MOk c ep m)(v:xI m.TL m.QL r.tg)(hn:r.now=m.now)(o:qN c m TL')(u:∀kind s,(kind=1\/kind=2)->s∈zV r.c r.nu->(kS r kind s (zV r.c r.nu)=true↔(⟨kind,s⟩:Jk)∈zx TL'))(h:∀k∈zx TL',k.s∈zV r.c r.nu):xI TL' m.QL r.settled.tg:=by
 have g:=(n.post w x o).1;have t:∀p∈TL',p.1=p.2.key:=fun p a=>(g.tg p a).key;have f:(zx TL').Nodup:=g.nt;refine xI.of_settled t f (fun p a=>?_) (fun k l=>?_)
 ·have j:zU TL' p.1=J p.2:=xF f a;have d:p.1.kd=1\/p.1.kd=2:=by
   rw[t p a];show p.2.kd=1\/p.2.kd=2;unfold Tsk.kd;split<;>simp
  have b:p.1∈zx TL':=List.mem_map.2 ⟨p,a,rfl⟩;have i:=h _ b;rw[(ZD r).2];exact⟨p.1.s,i,p.1.kd,d,(u _ _ d i).2 b,(Yv n v hn o j).symm⟩
 ·obtain⟨s,i,kind,d,q,rfl⟩:=((ZD r).2 k).1 l;have b:=(u kind s d i).1 q;obtain⟨p,a,e⟩:=List.mem_map.1 b;have j:zU TL' ⟨kind,s⟩=J p.2:=by rw[<-e];exact xF f a
  exact⟨p,a,Yv n v hn o j⟩
