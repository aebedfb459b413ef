import Derived.Test.YtpbimdkclnekeaaGreatVSmlI
import Derived.Test.YtpbimdkclnekeaaGreatVRefV
open Option renaming some → I
open Go.Value (int)
open Go.IntKind (i64)
open Go.IntKind (i32)
set_option linter.unusedVariables false
open Go.Proofs.Tryz
namespace Go.Proofs.YtpbimdkclnekeaaGreat
open Go.RowKit Go.Maps Go.Shelf
section
variable {w:World} {i:Ids} {c:Cf} {ep:Int} {m:MS} {r:RM}
theorem zhB(h:zy w i c ep m)(b:xR c ep m r)(se tm val:Int)(a: -2147483648<=val/\val<=2147483647):
  Calls prog 59 #[.pointer (I ⟨i.x,0,none⟩),int i64 se,int i64 tm,int i32 val] w fun e w'=>∃m',e=.returned (int i64 (r.ingest se tm val).2)/\zy w' i c ep m'/\zk (zU i) w w'/\xR c ep m' (r.ingest se tm val).1/\m'.num<=m.num+1:=by
 obtain⟨j,k⟩:=b.ingest se tm val a
 refine(zhN h b se tm val a).mono fun e w' ⟨d,f,g⟩=>⟨_,by rw[j];exact d,f,g,k,?_⟩
 unfold xM
 repeat' split
 all_goals(dsimp only;omega)
theorem zgP(h:zy w i c ep m)(b:xR c ep m r)(n:Int):
  Calls prog 36 #[.pointer (I ⟨i.x,0,none⟩),int i64 n] w fun e w'=>∃m',e=.returned (int i64 (r.tickL n).2)/\zy w' i c ep m'/\zk (zU i) w w'/\xR c ep m' (r.tickL n).1/\m'.num<=m.num+1:=by
 have a:=b.sok.ok
 by_cases j:n<1\/1000<n\/100000<m.now+n
 ·rw[b.tick_bad j]
  exact(zfy h n j a.now).mono fun e w' ⟨d,g⟩=>⟨m,d,h.later g,zk.of_below g,b,by omega⟩
 ·have A:=a.seg.len400 b.ok
  refine(zdm h b.ok n (by omega) ⟨a.now.1,by omega⟩ (a.binv b.ok) a.seg.inr (by omega) (fun z Q' f=>?_)).mono ?_
  ·obtain⟨D,q⟩:=Jb a.nt a.nq a.jobs f
   rw[q.tl,List.length_map]
   have:=a.t800 b.ok;omega
  ·rintro e w' ⟨d,o,k,l,t,s,f,y,v⟩
   obtain⟨p,u⟩:=b.tick (n:=n) (by omega) (by omega) f y v
   exact⟨_,by rw[p];exact d,t,s,u,by dsimp only;omega⟩
theorem zaI(h:zy w i c ep m)(a:xR c ep m r)(t:Tok)(C:t.wf):
  Calls prog 18 #[.pointer (I ⟨i.x,0,none⟩),.agg #[int i64 t.ep,int i64 t.num]] w fun e w'=>∃m',e=.returned (int i64 (r.commit t.ep t.num).2)/\zy w' i c ep m'/\zk (zU i) w w'/\xR c ep m' (r.commit t.ep t.num).1/\m'.num<=m.num+1:=by
 have f:=a.sok.ok
 have K:=f.seg.len400 a.ok
 have H:=f.t800 a.ok
 have G:=a.sok.gl a.ok
 cases b:zV m.QL t with
 |none=>
  rw[a.commit_no (e:=t.ep) (n:=t.num) b]
  exact(QT h t C b).mono fun e w' ⟨l,D⟩=>⟨m,l,h.later D,zk.of_below D,a,by omega⟩
 |some g=>
  obtain⟨x,j,E,p,A,J⟩:=a.sok.job a.ok b
  obtain⟨rl,s,si,tc,rest⟩:=x
  cases rl with
  |true=>
   obtain⟨k,F⟩:=A rfl
   have o:=(f.rolled b j rfl (xQ (qk c m.L s.se s.we k))).1
   have d:=o.seg.len400 a.ok
   refine(zaH h a.ok t C b E s si tc rest j p k F (by omega) (by omega) o.seg.inr (by dsimp only at d;omega) f.now (by omega)).mono ?_
   rintro e w' ⟨l,q,y,v,B⟩
   obtain⟨u,z⟩:=a.roll (e:=t.ep) (n:=t.num) b j F B
   exact⟨_,by rw[u];exact l,y,v,z,by dsimp only;omega⟩
  |false=>
   have o:=(f.reclaimed b j rfl).1
   have d:=o.seg.len400 a.ok
   refine(YN h a.ok t C b E s si tc rest j p (by omega) (by omega) o.seg.inr (by dsimp only at d;omega) f.now (by omega)).mono ?_
   rintro e w' ⟨l,q,y,v,B⟩
   obtain⟨u,z⟩:=a.reclaim (e:=t.ep) (n:=t.num) b j B
   exact⟨_,by rw[u];exact l,y,v,z,by dsimp only;omega⟩
theorem zeP(h:zy w i c ep m)(a:xR c ep m r)(t:Tok)(l:t.wf):
  Calls prog 19 #[.pointer (I ⟨i.x,0,none⟩),.agg #[int i64 t.ep,int i64 t.num]] w fun e w'=>∃m',e=.returned (int i64 (r.fail t.ep t.num).2)/\zy w' i c ep m'/\zk (zU i) w w'/\xR c ep m' (r.fail t.ep t.num).1/\m'.num<=m.num+1:=by
 have k:=a.sok.ok
 have A:=k.t800 a.ok
 cases b:zV m.QL t with
 |none=>
  rw[a.fail_no (e:=t.ep) (n:=t.num) b]
  exact(zaN h t l b).mono fun e w' ⟨d,j⟩=>⟨m,d,h.later j,zk.of_below j,a,by omega⟩
 |some g=>
  obtain⟨x,o,y,v,z,f⟩:=a.sok.job a.ok b
  refine(zhw h t l b y o k.now f (by omega)).mono ?_
  rintro e w' ⟨d,s,q⟩
  obtain⟨p,u⟩:=a.fail (e:=t.ep) (n:=t.num) b o
  exact⟨_,by rw[p];exact d,s,q,u,by dsimp only;omega⟩
theorem zfS(h:zy w i c ep m)(a:xR c ep m r)(hn:m.num<=1000000000000000)(j:yS ep)(slot:Int):
  Calls prog 16 #[.pointer (I ⟨i.x,0,none⟩),int i64 slot] w fun e w'=>∃m',e=.returned (.tuple #[tkA (r.pick slot).2.1,int i64 (r.pick slot).2.2])/\zy w' i c ep m'/\zk (zU i) w w'/\xR c ep m' (r.pick slot).1/\m'.num<=m.num+1:=by
 have k:=a.sok.ok
 have C:=a.ubound
 have B:=k.q800 a.ok
 by_cases f:slot<0\/c.s<=slot
 ·rw[a.pick_slot f]
  exact(zdj h a.ok slot f).mono fun e w' ⟨d,b⟩=>⟨m,d,h.later b,zk.of_below b,a,by omega⟩
 ·refine(zdi h a.ok slot (by omega) k.now a.sok.tsk (by omega) ⟨k.num,hn⟩ j a.sok.qn (by omega)).mono ?_
  rintro e w' (⟨d,b,g⟩|⟨d,b,g,q⟩|⟨p,o,A,y,z,d,u,t⟩)
  ·rw[a.pick_busy (by omega) g]
   exact⟨m,d,h.later b,zk.of_below b,a,by omega⟩
  ·rw[a.pick_idle (by omega) q g]
   exact⟨m,d,h.later b,zk.of_below b,a,by omega⟩
  ·obtain⟨l,n,v⟩:=a.pick (by omega) o A y z
   exact⟨_,by rw[l,n];exact d,u,t,v,by dsimp only;omega⟩
end
section
variable {B:Nat} {X:World} {q:Nat} {c:Cf} {ep:Int} {m:MS} {r:RM} {tv nv pv gv kv:Value}
theorem zgf(h:zJ B X q r tv nv pv gv kv)(f:∀k,pv.ownBlock=I k->¬gv.ownBlock=I k)(s:B<=X.1.size)(b:xR c ep m r)(se tm val:Int)(d: -2147483648<=val/\val<=2147483647):
  Calls prog 152 #[.pointer (I ⟨q,0,none⟩),int i64 se,int i64 tm,int i32 val] X fun e V=>e=.returned (int i64 (r.ingest se tm val).2)/\qi B X q (r.ingest se tm val).1 tv nv pv gv kv V:=by
 have t:=b.len;have u:=b.glen;have v:=b.plen;have w:=b.klen;have x:=b.used;have y:=b.ubound
 refine(zbj h s b.hokr (by omega) (by omega) (by omega) (by omega) b.nu b.time (by omega) se tm val d).mono ?_
 rintro e V ⟨p,i,g,j,l,n,o⟩
 refine⟨p,i,pv,gv,g,j,f,l.mono (fun k _ e=>?_),fun k a=>?_⟩
 ·rcases e with e|e
  ·exact .inl e
  ·exact .inr (.inr (.inl e))
 ·rcases a with a|a|a|a|a|a
  ·exact .inl (.inl a)
  ·exact .inl (.inr (.inl a))
  ·exact(n k a).imp (fun e=> .inr (.inr (.inl e))) id
  ·exact .inl (.inr (.inr (.inr (.inl a))))
  ·exact .inl (.inr (.inr (.inr (.inr (.inl a)))))
  ·exact(o k a).imp (fun e=> .inr (.inr (.inr (.inr (.inr e))))) id
theorem zdT(h:zJ B X q r tv nv pv gv kv)(d:∀k,pv.ownBlock=I k->¬gv.ownBlock=I k)(o:B<=X.1.size)(b:xR c ep m r)(n:Int)(hn: -9223372036854775808<=n/\n<=9223372036854775807):
  Calls prog 153 #[.pointer (I ⟨q,0,none⟩),int i64 n] X fun e V=>e=.returned (int i64 (r.tickL n).2)/\qi B X q (r.tickL n).1 tv nv pv gv kv V:=by
 have s:=b.len;have t:=b.glen;have u:=b.plen;have v:=b.klen
 refine(zgj h o b.hokr (by omega) (by omega) (by omega) (by omega) b.nu b.time (fun x p=>(b.task x p).1) n hn).mono ?_
 rintro e V ⟨l,f,g,i,j⟩
 refine⟨l,nv,pv,gv,f,g,d,i.mono (fun k _ e=>?_),fun k a=>?_⟩
 ·rcases e with e|e
  ·exact .inl e
  ·exact .inr (.inr (.inr (.inr (.inr e))))
 ·rcases a with a|a|a|a|a|a
  ·exact .inl (.inl a)
  ·exact .inl (.inr (.inl a))
  ·exact .inl (.inr (.inr (.inl a)))
  ·exact .inl (.inr (.inr (.inr (.inl a))))
  ·exact .inl (.inr (.inr (.inr (.inr (.inl a)))))
  ·exact(j k a).imp (fun e=> .inr (.inr (.inr (.inr (.inr e))))) id
theorem JR(h:zJ B X q r tv nv pv gv kv)(f:∀k,pv.ownBlock=I k->¬gv.ownBlock=I k)(v:B<=X.1.size)(b:xR c ep m r)(t:Tok):
  Calls prog 155 #[.pointer (I ⟨q,0,none⟩),.agg #[int i64 t.ep,int i64 t.num]] X fun e V=>e=.returned (int i64 (r.commit t.ep t.num).2)/\qi B X q (r.commit t.ep t.num).1 tv nv pv gv kv V:=by
 have y:=b.len;have z:=b.glen;have A:=b.plen;have C:=b.klen
 refine(zbg h f v b.hokr (by omega) (by omega) (by omega) (by omega) b.nu b.time (fun x w=>(b.task x w).2.1) t.ep t.num).mono ?_
 rintro e V ⟨u,i,d,g,j,l,n,o,p,s⟩
 refine⟨u,nv,i,d,g,j,l,n.mono (fun k _ e=>?_),fun k a=>?_⟩
 ·rcases e with e|e|e
  ·exact .inl e
  ·exact .inr (.inr (.inr (.inl e)))
  ·exact .inr (.inr (.inr (.inr (.inl e))))
 ·rcases a with a|a|a|a|a|a
  ·exact .inl (.inl a)
  ·exact .inl (.inr (.inl a))
  ·exact .inl (.inr (.inr (.inl a)))
  ·exact(o k a).imp (fun e=> .inr (.inr (.inr (.inl e)))) id
  ·exact(p k a).imp (fun e=> .inr (.inr (.inr (.inr (.inl e))))) id
  ·exact(s k a).imp (fun e=> .inr (.inr (.inr (.inr (.inr e))))) id
theorem zdN(h:zJ B X q r tv nv pv gv kv)(a:∀k,pv.ownBlock=I k->¬gv.ownBlock=I k)(b:xR c ep m r)(t:Tok):
  Calls prog 156 #[.pointer (I ⟨q,0,none⟩),.agg #[int i64 t.ep,int i64 t.num]] X fun e V=>e=.returned (int i64 (r.fail t.ep t.num).2)/\qi B X q (r.fail t.ep t.num).1 tv nv pv gv kv V:=by
 have l:=b.klen
 refine(zge h (by omega) b.time (fun x j=>(b.task x j).1) t.ep t.num).mono ?_
 rintro e V ⟨g,d,f⟩
 exact⟨g,nv,pv,gv,kv,d,a,f.mono (fun k _ e=> .inr (.inr (.inr (.inr (.inr e))))),fun k i=> .inl i⟩
theorem zdS(h:zJ B X q r tv nv pv gv kv)(b:∀k,pv.ownBlock=I k->¬gv.ownBlock=I k)(a:xR c ep m r)(hn:m.num<=1000000000000000)(slot:Int):
  Calls prog 154 #[.pointer (I ⟨q,0,none⟩),int i64 slot] X fun e V=>e=.returned (.tuple #[tkA (r.pick slot).2.1,int i64 (r.pick slot).2.2])/\qi B X q (r.pick slot).1 tv nv pv gv kv V:=by
 have l:=a.len;have n:=a.glen;have o:=a.klen;have p:=a.used;have s:=a.ubound;have t:=a.sok.ok.num;have u:=a.picks
 refine(zgi h a.hokr (by omega) (by omega) (by omega) a.nu (by omega) a.time (fun x d=>⟨(a.task x d).2.2.1,(a.task x d).2.2.2⟩) (by omega) slot).mono ?_
 rintro e V ⟨i,f,g⟩
 refine⟨i,nv,pv,gv,kv,f,b,g.mono (fun k _ e=>?_),fun k j=> .inl j⟩
 rcases e with e|e
 ·exact .inl e
 ·exact .inr (.inr (.inr (.inr (.inr e))))
theorem zlx(r:RM)(a b v:Int):¬(r.ingest a b v).2=13:=by
 unfold RM.ingest;repeat' split
 all_goals simp
theorem zlf(r:RM)(n:Int):¬(r.tickL n).2=13:=by unfold RM.tickL;split<;>simp
theorem zhp(r:RM)(a b:Int):¬(r.commit a b).2=13:=by unfold RM.commit;split<;>simp
theorem zkE(r:RM)(a b:Int):¬(r.fail a b).2=13:=by unfold RM.fail;split<;>simp
theorem zkW(r:RM)(n:Int):¬(r.pick n).2.2=13:=by
 unfold RM.pick;repeat' split
 all_goals simp
end
end Go.Proofs.YtpbimdkclnekeaaGreat
