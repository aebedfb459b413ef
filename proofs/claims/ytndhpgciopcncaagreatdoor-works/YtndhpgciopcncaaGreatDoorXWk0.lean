import Derived.Test.YtndhpgciopcncaaGreatDoorXRefV
open Nat renaming le_refl → J
open Nat renaming lt_of_lt_of_le → K
open Go.RowKit.Below renaming refl → E
set_option linter.unusedVariables false
set_option maxRecDepth 20000
set_option maxHeartbeats 8000000
open Go.Proofs.Tryz
namespace Go.Proofs.YtndhpgciopcncaaGreatDoor
open Go.ChangeMaps (setBlock)
open Go.RowKit Go.Maps Go.Shelf
variable {c:Cf} {i:Ids} {ep:Int} {m:MS} {w:World}
theorem zeD(n:Int)(w:World)(h:n<0\/4<=n):Calls prog 60 #[I n] w fun e w'=>e=.returned (.bool false)/\w'=w:=by
 by_cases b:n<0
 ·have a:decide (0<=n)=false:=by simp;omega
  clear h;go_in;go_wp2_with fail;go_ret;exact⟨rfl,rfl⟩
 ·have c:0<=n:=by omega
  have d:¬n<4:=by omega
  clear h;go_in;go_wp2_with fail;go_ret;exact⟨rfl,rfl⟩
theorem zlI{x:Nat}(se tm val:Int)(a:se<0\/4<=se):
  Calls prog 27 #[(O x),I se,I tm,i_ val] w (Rz w (I 2)):=by
 have b:=fun W=>ze (zeD se W a);clear a;go_in;go_wp2_with(first|(go_at_call 60;refine(b _).mono ?_;rintro e f ⟨rfl,d⟩;have c:=d.symm;subst c)|fail);go_ret;exact⟨rfl,E _ _⟩
theorem ziI(h:zF w i c ep m)(se tm val:Int)(a:0<=se/\se<4)(f:tm<0\/m.now<tm):
  Calls prog 27 #[(O i.x),I se,I tm,i_ val] w (Rz w (I 5)):=by
 obtain⟨-,-,-,-,-,-,-,-,q,-,-⟩:=h.cells;have p:=h.lt;have d:=fun W=>ze (jF se W a);clear h a;by_cases k:tm<0
 ·have g:decide (tm<0)=true:=by simpa using k
  clear f;go_in;go_wp2_with(first|(go_at_call 60;refine(d _).mono ?_;rintro e l ⟨rfl,j⟩;have b:=j.symm;subst b)|fail);go_ret;exact⟨rfl,E _ _⟩
 ·have g:decide (tm<0)=false:=by simpa using k
  have n:m.now<tm:=by omega
  have o:decide (m.now<tm)=true:=by simpa using n
  clear f;go_in;go_wp2_with(first|(go_at_call 60;refine(d _).mono ?_;rintro e l ⟨rfl,j⟩;have b:=j.symm;subst b)|fail);go_ret;exact⟨rfl,E _ _⟩
theorem ziH(h:zF w i c ep m)(C:c.ok)(se tm val:Int)(j:0<=se/\se<4)(q:0<=tm/\tm<=m.now)(p:tm<m.now-c.la)(t:m.now<=100000):
  Calls prog 27 #[(O i.x),I se,I tm,i_ val] w (Rz w (I 3)):=by
 obtain⟨a,cap,s,r⟩:=h.ts;obtain⟨N,P,Q,R,S,T,v,U,V,X,-⟩:=h.cells;rw[s]at v;have L:=h.lt;obtain⟨D,F⟩:=C.la;have l:=fun W=>ze (YN c a cap W);have k:=fun W=>ze (jF se W j);have y:decide (tm<0)=false:=by simp;omega
 have z:decide (m.now<tm)=false:=by simp;omega
 have A:decide (tm<m.now-c.la)=true:=by simpa using p
 obtain⟨G,H⟩:=q;clear h r;go_in;go_wp2_with(first|(go_at_call 60;refine(k _).mono ?_;rintro e M ⟨rfl,B⟩;have n:=B.symm;subst n));have g:Nonempty (zm w.1.size w):=zm.some _ _;have f:=fun(u:zm w.1.size w) b o h=>u.cell b o h;refine zh w.1.size (by kernel_rfl) (by kernel_rfl) ?_;repeat(go_big_quiet_step (first
  |(go_at_call 61;exact Calls.later (J _) (l _))))
 refine wpQuiet_nil ?_;rintro⟨w1,d⟩;dsimp only;clear f g;go_wp2_with fail;go_ret;exact⟨rfl,d⟩
theorem zgd(h:zF w i c ep m)(Q:c.ok)(t se we:Int)(z:t< -1\/c.n<=t\/se<0\/4<=se\/we<0\/100000<we):
  Calls prog 57 #[(O i.x),I t,I se,I we] w (Rz w (.tuple #[.agg #[I 0,I 0,i_ 0,i_ 0],I 2])):=by
 obtain⟨a,cap,D,C⟩:=h.ts;have U:=h.lt;have p:B_ w (w.alloc kq):=(E _ _).alloc (J _) _;obtain⟨Z,c1,c2,c3,c4,c5,S,-,c8,c9,-⟩:=(h.later p).cells;rw[D]at S;have k:=ze p;have f:=ze (zo w kq);have d:w.1.size<(w.alloc kq).1.size:=by rw[zE];omega
 have V:i.x<(w.alloc kq).1.size:=by rw[zE];omega
 have s:=ze (zeH c Q a cap t (w.alloc kq));have T:=Q.n4;clear p h C;by_cases A:t< -1\/c.n<=t
 ·rw[show inB t (-1) ((c.n:Int)-1)=false from by rw[zbs];omega]at s
  clear A z;go_in;go_wp2_with(first|(go_at_call 116;refine s.mono ?_;rintro e w1 ⟨rfl,b⟩;obtain⟨G,H,L,M,-⟩:=zc (((b.block w.1.size d).trans f));have N:=fun j=>zI ((b.block w.1.size d).trans f) j;have r:w.1.size<w1.1.size:=K d b.size;have g:=ze b;clear b)|fail);have o:=(g.block w.1.size d).trans f;have q:=YG o (I 0) (I 0) (i_ 0) (i_ 0);refine bodyPost_ret (v:=.tuple #[.agg #[I 0,I 0,i_ 0,i_ 0],I 2]) (zn results57 _ _ w.1.size _ _ _ _ _ rfl rfl q underlying115 rfl (by kernel_rfl)) rfl ?_;exact⟨rfl,k.trans ((g.mono k.size).trans (below4 (J _) _ _ _ _))⟩
 rw[show inB t (-1) ((c.n:Int)-1)=true from by rw[qZ];omega]at s
 by_cases B:se<0\/4<=se
 ·have y:=fun W=>ze (zeD se W B);clear A B z;go_in;go_wp2_with(first|(go_at_call 116;refine s.mono ?_;rintro e w1 ⟨rfl,b⟩;obtain⟨G,H,L,M,-⟩:=zc (((b.block w.1.size d).trans f));have N:=fun j=>zI ((b.block w.1.size d).trans f) j;have r:w.1.size<w1.1.size:=K d b.size;have g:=ze b;clear b)|(go_at_call 60;refine(y _).mono ?_;rintro e P ⟨rfl,u⟩;have l:=u.symm;subst l)|fail);have o:=(g.block w.1.size d).trans f;have q:=YG o (I 0) (I 0) (i_ 0) (i_ 0);refine bodyPost_ret (v:=.tuple #[.agg #[I 0,I 0,i_ 0,i_ 0],I 2]) (zn results57 _ _ w.1.size _ _ _ _ _ rfl rfl q underlying115 rfl (by kernel_rfl)) rfl ?_;exact⟨rfl,k.trans ((g.mono k.size).trans (below4 (J _) _ _ _ _))⟩
 have y:=fun W=>ze (jF se W (by omega));by_cases R:we<0
 ·have F:decide (we<0)=true:=by simpa using R
  clear A B z;go_in;go_wp2_with(first|(go_at_call 116;refine s.mono ?_;rintro e w1 ⟨rfl,b⟩;obtain⟨G,H,L,M,-⟩:=zc (((b.block w.1.size d).trans f));have N:=fun j=>zI ((b.block w.1.size d).trans f) j;have r:w.1.size<w1.1.size:=K d b.size;have g:=ze b;clear b)|(go_at_call 60;refine(y _).mono ?_;rintro e P ⟨rfl,u⟩;have l:=u.symm;subst l)|fail);have o:=(g.block w.1.size d).trans f;have q:=YG o (I 0) (I 0) (i_ 0) (i_ 0);refine bodyPost_ret (v:=.tuple #[.agg #[I 0,I 0,i_ 0,i_ 0],I 2]) (zn results57 _ _ w.1.size _ _ _ _ _ rfl rfl q underlying115 rfl (by kernel_rfl)) rfl ?_;exact⟨rfl,k.trans ((g.mono k.size).trans (below4 (J _) _ _ _ _))⟩
 have F:decide (we<0)=false:=by simpa using R
 have X:100000<we:=by omega
 have Y:decide (100000<we)=true:=by simpa using X
 clear A B z;go_in;go_wp2_with(first|(go_at_call 116;refine s.mono ?_;rintro e w1 ⟨rfl,b⟩;obtain⟨G,H,L,M,-⟩:=zc (((b.block w.1.size d).trans f));have N:=fun j=>zI ((b.block w.1.size d).trans f) j;have r:w.1.size<w1.1.size:=K d b.size;have g:=ze b;clear b)|(go_at_call 60;refine(y _).mono ?_;rintro e P ⟨rfl,u⟩;have l:=u.symm;subst l)|fail);have o:=(g.block w.1.size d).trans f;have q:=YG o (I 0) (I 0) (i_ 0) (i_ 0);refine bodyPost_ret (v:=.tuple #[.agg #[I 0,I 0,i_ 0,i_ 0],I 2]) (zn results57 _ _ w.1.size _ _ _ _ _ rfl rfl q underlying115 rfl (by kernel_rfl)) rfl ?_;exact⟨rfl,k.trans ((g.mono k.size).trans (below4 (J _) _ _ _ _))⟩
theorem zgb(h:zF w i c ep m)(F:c.ok)(slot:Int)(t:slot<0\/c.s<=slot):
  Calls prog 18 #[(O i.x),I slot] w (Rz w (.tuple #[zgg,I 6])):=by
 have f:B_ w (w.alloc Zj):=(E _ _).alloc (J _) _;have y:=zo w Zj;have z:=zE w Zj;have q:=h.later f;obtain⟨a,cap,v,u⟩:=h.ts;obtain⟨N,P,Q,R,S,T,D,-,U,-,C⟩:=q.cells;rw[v]at D;have H:=q.lt;have o:=fun W=>ze (zbD c F a cap slot W);rw[show inB slot 0 (c.s-1)=false from by rw[zbs];omega]at o
 have n:=ze f;have A:=ze y;have B:=ze z;clear h q f y z u t;go_in;have r:w.1.size<(w.alloc Zj).1.size:=by rw[ud B];omega
 go_wp2_with(first
   |(go_at_call 46;refine(o _).mono ?_;rintro e w1 ⟨rfl,d⟩;have l:=ze (n.trans (d.mono n.size));have b:=(d.block _ r).trans A;obtain⟨z0,V,X,z3,z4,z5,Y,Z,z8,z9,M⟩:=z11 b;have zf:=fun j=>zI b j;have zl:=zd b;have p:=ze b;clear d b)|fail)
 have G:=XG p (I 0) (I 0) (I 0) (I 0) (I 0) (I 0) (I 0) (I 0) (I 0) (I 0) (I 0);refine bodyPost_ret (zn results18 _ _ w.1.size _ _ _ _ _ rfl rfl G underlying51 rfl (by kernel_rfl)) rfl ?_;have L:=jk (w:=w1) (g:=w.1.size) (I 0) (I 0) (I 0) (I 0) (I 0) (I 0) (I 0) (I 0) (I 0) (I 0) (I 0);exact⟨rfl,l.trans (L.below l.size (fun k e=>by omega))⟩
theorem zlH{r:RM}(h:zF w i c ep m)(f:ql c ep m r)(se tm val:Int)(g: -2147483648<=val/\val<=2147483647):
  Calls prog 27 #[(O i.x),I se,I tm,i_ val] w fun e w'=>e=.returned (I (qe c m se tm val).2)/\zF w' i c ep (qe c m se tm val).1/\Kx i w w':=by
 have d:=f.sok.ok;have z:=f.ubound;by_cases j:se<0\/4<=se
 ·rw[show qe c m se tm val=(m,2)from by unfold qe;rw[if_pos j]]
  exact(zlI se tm val j).mono fun e w' ⟨b,a⟩=>⟨b,h.later a,h.below a⟩
 by_cases o:tm<0\/m.now<tm
 ·rw[show qe c m se tm val=(m,5)from by unfold qe;rw[if_neg j,if_pos o]]
  exact(ziI h se tm val (by omega) o).mono fun e w' ⟨b,a⟩=>⟨b,h.later a,h.below a⟩
 by_cases q:tm<m.now-c.la
 ·rw[show qe c m se tm val=(m,3)from by unfold qe;rw[if_neg j,if_neg o,if_pos q]]
  exact(ziH h f.ok se tm val (by omega) (by omega) q d.now.2).mono fun e w' ⟨b,a⟩=>⟨b,h.later a,h.below a⟩
 have l:∀k:Nat,k<c.n->zU m.Gl (qK c se tm k)=none:=fun k A=>xO.2 (by
  have:=vu f.ok d (x:=⟨se,tm,val⟩) (t:=(k:Int)) (by show m.now-c.la<=tm;omega) (by omega) (by omega);exact this)
 by_cases s:c.qu<xh m.L+(1+2*yv c m.L ⟨se,tm,val⟩ c.n)
 ·rw[show qe c m se tm val=(m,4)from by unfold qe;rw[if_neg j,if_neg o,if_neg q,if_pos s]]
  exact(ziG h f.ok se tm val (by omega) (by omega) (by omega) d.now.2 g (by omega) d.seg.st l s).mono fun e w' ⟨b,a⟩=>⟨b,h.later a,h.below a⟩
 ·rw[show qe c m se tm val=({m with L:=kY c m.L ⟨se,tm,val⟩},0)from by unfold qe;rw[if_neg j,if_neg o,if_neg q,if_neg s]]
  refine(znU h f.ok se tm val (by omega) (by omega) (by omega) d.now.2 g (by omega) d.seg.st l (by omega) (by have:=d.seg.len400 f.ok;omega) (fun p u v=>?_)).mono fun e w' ⟨b,a,y⟩=>⟨b,a,y⟩;obtain⟨B,C,D,F⟩:=d.seg.raw p u v;have G:=d.seg.cnt f.ok p u v;unfold Cl.small;omega
section
variable {w:World} {i:Ids} {c:Cf} {ep:Int} {m:MS} {r:RM}
theorem zlp(h:zF w i c ep m)(b:ql c ep m r)(se tm val:Int)(a: -2147483648<=val/\val<=2147483647):
  Calls prog 27 #[(O i.x),I se,I tm,i_ val] w fun e w'=>∃m',e=.returned (I (r.ingest se tm val).2)/\zF w' i c ep m'/\Kx i w w'/\ql c ep m' (r.ingest se tm val).1/\m'.num<=m.num+1:=by
 obtain⟨j,k⟩:=b.ingest se tm val a;refine(zlH h b se tm val a).mono fun e w' ⟨d,f,g⟩=>⟨_,by rw[j];exact d,f,g,k,?_⟩;unfold qe;repeat' split
 all_goals(dsimp only;omega)
theorem zks(h:zF w i c ep m)(b:ql c ep m r)(n:Int):
  Calls prog 26 #[(O i.x),I n] w fun e w'=>∃m',e=.returned (I (r.tickL n).2)/\zF w' i c ep m'/\Kx i w w'/\ql c ep m' (r.tickL n).1/\m'.num<=m.num+1:=by
 have a:=b.sok.ok;by_cases j:n<1\/1000<n\/100000<m.now+n
 ·rw[b.tick_bad j];exact(ziL h n j a.now).mono fun e w' ⟨d,g⟩=>⟨m,d,h.later g,h.below g,b,by omega⟩
 ·have z:=a.seg.len400 b.ok;refine(zgf h b.ok n (by omega) ⟨a.now.1,by omega⟩ (a.binv b.ok) a.seg.inr (by omega) (fun y Q' f=>?_)).mono ?_
  ·obtain⟨D,p⟩:=zbh a.nt a.nq a.jobs f;rw[p.tl,List.length_map];have:=a.t800 b.ok;omega
  ·rintro e w' ⟨d,l,k,TL',s,q,f,v,u⟩;obtain⟨o,t⟩:=b.tick (n:=n) (by omega) (by omega) f v u;exact⟨_,by rw[o];exact d,s,q,t,by dsimp only;omega⟩
theorem zcZ(h:zF w i c ep m)(a:ql c ep m r)(t:Tok)(B:t.wf):
  Calls prog 20 #[(O i.x),.agg #[I t.ep,I t.num]] w fun e w'=>∃m',e=.returned (I (r.commit t.ep t.num).2)/\zF w' i c ep m'/\Kx i w w'/\ql c ep m' (r.commit t.ep t.num).1/\m'.num<=m.num+1:=by
 have f:=a.sok.ok;have N:=f.seg.len400 a.ok;have H:=f.t800 a.ok;have G:=a.sok.gl a.ok;cases b:zU m.QL t with
 |none=>
  rw[a.commit_no (e:=t.ep) (n:=t.num) b];exact(Kf h t B b).mono fun e w' ⟨l,C⟩=>⟨m,l,h.later C,h.below C,a,by omega⟩
 |some g=>
  obtain⟨x,j,D,p,z,M⟩:=a.sok.job a.ok b;obtain⟨rl,s,si,tc,rest⟩:=x;cases rl with
  |true=>
   obtain⟨k,F⟩:=z rfl;have o:=(f.rolled b j rfl (xP (xM c m.L s.se s.we k))).1;have d:=o.seg.len400 a.ok;refine(zcY h a.ok t B b D s si tc rest j p k F (by omega) (by omega) o.seg.inr (by dsimp only at d;omega) f.now (by omega)).mono ?_;rintro e w' ⟨l,TL',v,u,A⟩;obtain⟨q,y⟩:=a.roll (e:=t.ep) (n:=t.num) b j F A;exact⟨_,by rw[q];exact l,v,u,y,by dsimp only;omega⟩
  |false=>
   have o:=(f.reclaimed b j rfl).1;have d:=o.seg.len400 a.ok;refine(Vu h a.ok t B b D s si tc rest j p (by omega) (by omega) o.seg.inr (by dsimp only at d;omega) f.now (by omega)).mono ?_;rintro e w' ⟨l,TL',v,u,A⟩;obtain⟨q,y⟩:=a.reclaim (e:=t.ep) (n:=t.num) b j A;exact⟨_,by rw[q];exact l,v,u,y,by dsimp only;omega⟩
theorem zhX(h:zF w i c ep m)(a:ql c ep m r)(t:Tok)(l:t.wf):
  Calls prog 21 #[(O i.x),.agg #[I t.ep,I t.num]] w fun e w'=>∃m',e=.returned (I (r.fail t.ep t.num).2)/\zF w' i c ep m'/\Kx i w w'/\ql c ep m' (r.fail t.ep t.num).1/\m'.num<=m.num+1:=by
 have k:=a.sok.ok;have A:=k.t800 a.ok;cases b:zU m.QL t with
 |none=>
  rw[a.fail_no (e:=t.ep) (n:=t.num) b];exact(zdf h t l b).mono fun e w' ⟨d,j⟩=>⟨m,d,h.later j,h.below j,a,by omega⟩
 |some g=>
  obtain⟨x,o,y,v,z,f⟩:=a.sok.job a.ok b;refine(zli h t l b y o k.now f (by omega)).mono ?_;rintro e w' ⟨d,s,q⟩;obtain⟨p,u⟩:=a.fail (e:=t.ep) (n:=t.num) b o;exact⟨_,by rw[p];exact d,s,q,u,by dsimp only;omega⟩
theorem zji(h:zF w i c ep m)(a:ql c ep m r)(hn:m.num<=1000000000000000)(j:xX ep)(slot:Int):
  Calls prog 18 #[(O i.x),I slot] w fun e w'=>∃m',e=.returned (.tuple #[tkA (r.pick slot).2.1,I (r.pick slot).2.2])/\zF w' i c ep m'/\Kx i w w'/\ql c ep m' (r.pick slot).1/\m'.num<=m.num+1:=by
 have k:=a.sok.ok;have C:=a.ubound;have B:=k.q800 a.ok;by_cases f:slot<0\/c.s<=slot
 ·rw[a.pick_slot f];exact(zgb h a.ok slot f).mono fun e w' ⟨d,b⟩=>⟨m,d,h.later b,h.below b,a,by omega⟩
 ·refine(zga h a.ok slot (by omega) k.now a.sok.tsk (by omega) ⟨k.num,hn⟩ j a.sok.qn (by omega)).mono ?_;rintro e w' (⟨d,b,g⟩|⟨d,b,g,q⟩|⟨p,o,A,y,z,d,u,t⟩)
  ·rw[a.pick_busy (by omega) g];exact⟨m,d,h.later b,h.below b,a,by omega⟩
  ·rw[a.pick_idle (by omega) q g];exact⟨m,d,h.later b,h.below b,a,by omega⟩
  ·obtain⟨l,n,v⟩:=a.pick (by omega) o A y z;exact⟨_,by rw[l,n];exact d,u,t,v,by dsimp only;omega⟩
end
section
variable {B:Nat} {X:World} {q:Nat} {c:Cf} {ep:Int} {m:MS} {r:RM} {tv nv pv gv kv:Value}
theorem zjD(h:zR B X q r tv nv pv gv kv)(f:∀k,pv.ownBlock=some k->¬gv.ownBlock=some k)(l:B<=X.1.size)(b:ql c ep m r)(se tm val:Int)(d: -2147483648<=val/\val<=2147483647):
  Calls prog 211 #[(O q),I se,I tm,i_ val] X fun e V=>e=.returned (I (r.ingest se tm val).2)/\kG B X q (r.ingest se tm val).1 tv nv pv gv kv V:=by
 have n:=b.len;have o:=b.glen;have p:=b.plen;have s:=b.klen;have t:=b.used;have u:=b.ubound;refine(zdJ h l b.hokr (by omega) (by omega) (by omega) (by omega) b.nu b.time (by omega) se tm val d).mono ?_;rintro e V ⟨j,i,g,a1,a2,a3,a4⟩;refine⟨j,i,pv,gv,g,a1,f,a2.mono (fun k _ e=>?_),fun k a=>?_⟩
 ·rcases e with e|e
  ·exact .inl e
  ·exact .inr (.inr (.inl e))
 ·rcases a with a|a|a|a|a|a
  ·exact .inl (.inl a)
  ·exact .inl (.inr (.inl a))
  ·exact(a3 k a).imp (fun e=> .inr (.inr (.inl e))) id
  ·exact .inl (.inr (.inr (.inr (.inl a))))
  ·exact .inl (.inr (.inr (.inr (.inr (.inl a)))))
  ·exact(a4 k a).imp (fun e=> .inr (.inr (.inr (.inr (.inr e))))) id
theorem zgT(h:zR B X q r tv nv pv gv kv)(d:∀k,pv.ownBlock=some k->¬gv.ownBlock=some k)(i:B<=X.1.size)(b:ql c ep m r)(n:Int)(hn: -9223372036854775808<=n/\n<=9223372036854775807):
  Calls prog 212 #[(O q),I n] X fun e V=>e=.returned (I (r.tickL n).2)/\kG B X q (r.tickL n).1 tv nv pv gv kv V:=by
 have l:=b.len;have o:=b.glen;have p:=b.plen;have s:=b.klen;refine(zjJ h i b.hokr (by omega) (by omega) (by omega) (by omega) b.nu b.time (fun x j=>(b.task x j).1) n hn).mono ?_;rintro e V ⟨g,f,a1,a2,a4⟩;refine⟨g,nv,pv,gv,f,a1,d,a2.mono (fun k _ e=>?_),fun k a=>?_⟩
 ·rcases e with e|e
  ·exact .inl e
  ·exact .inr (.inr (.inr (.inr (.inr e))))
 ·rcases a with a|a|a|a|a|a
  ·exact .inl (.inl a)
  ·exact .inl (.inr (.inl a))
  ·exact .inl (.inr (.inr (.inl a)))
  ·exact .inl (.inr (.inr (.inr (.inl a))))
  ·exact .inl (.inr (.inr (.inr (.inr (.inl a)))))
  ·exact(a4 k a).imp (fun e=> .inr (.inr (.inr (.inr (.inr e))))) id
theorem zcb(h:zR B X q r tv nv pv gv kv)(f:∀k,pv.ownBlock=some k->¬gv.ownBlock=some k)(l:B<=X.1.size)(b:ql c ep m r)(t:Tok):
  Calls prog 214 #[(O q),.agg #[I t.ep,I t.num]] X fun e V=>e=.returned (I (r.commit t.ep t.num).2)/\kG B X q (r.commit t.ep t.num).1 tv nv pv gv kv V:=by
 have o:=b.len;have p:=b.glen;have s:=b.plen;have u:=b.klen;refine(zdD h f l b.hokr (by omega) (by omega) (by omega) (by omega) b.nu b.time (fun x n=>(b.task x n).2.1) t.ep t.num).mono ?_;rintro e V ⟨j,i,d,g,a1,a2,a3,a4,a5,a6⟩;refine⟨j,nv,i,d,g,a1,a2,a3.mono (fun k _ e=>?_),fun k a=>?_⟩
 ·rcases e with e|e|e
  ·exact .inl e
  ·exact .inr (.inr (.inr (.inl e)))
  ·exact .inr (.inr (.inr (.inr (.inl e))))
 ·rcases a with a|a|a|a|a|a
  ·exact .inl (.inl a)
  ·exact .inl (.inr (.inl a))
  ·exact .inl (.inr (.inr (.inl a)))
  ·exact(a4 k a).imp (fun e=> .inr (.inr (.inr (.inl e)))) id
  ·exact(a5 k a).imp (fun e=> .inr (.inr (.inr (.inr (.inl e))))) id
  ·exact(a6 k a).imp (fun e=> .inr (.inr (.inr (.inr (.inr e))))) id
theorem zgM(h:zR B X q r tv nv pv gv kv)(a:∀k,pv.ownBlock=some k->¬gv.ownBlock=some k)(b:ql c ep m r)(t:Tok):
  Calls prog 215 #[(O q),.agg #[I t.ep,I t.num]] X fun e V=>e=.returned (I (r.fail t.ep t.num).2)/\kG B X q (r.fail t.ep t.num).1 tv nv pv gv kv V:=by
 have i:=b.klen;refine(zjC h (by omega) b.time (fun x g=>(b.task x g).1) t.ep t.num).mono ?_;rintro e V ⟨d,a1,a2⟩;exact⟨d,nv,pv,gv,kv,a1,a,a2.mono (fun k _ e=> .inr (.inr (.inr (.inr (.inr e))))),fun k f=> .inl f⟩
theorem zgS(h:zR B X q r tv nv pv gv kv)(b:∀k,pv.ownBlock=some k->¬gv.ownBlock=some k)(a:ql c ep m r)(hn:m.num<=1000000000000000)(slot:Int):
  Calls prog 213 #[(O q),I slot] X fun e V=>e=.returned (.tuple #[tkA (r.pick slot).2.1,I (r.pick slot).2.2])/\kG B X q (r.pick slot).1 tv nv pv gv kv V:=by
 have i:=a.len;have j:=a.glen;have l:=a.klen;have n:=a.used;have o:=a.ubound;have p:=a.sok.ok.num;have s:=a.picks;refine(zjI h a.hokr (by omega) (by omega) (by omega) a.nu (by omega) a.time (fun x d=>⟨(a.task x d).2.2.1,(a.task x d).2.2.2⟩) (by omega) slot).mono ?_;rintro e V ⟨f,a1,a2⟩;refine⟨f,nv,pv,gv,kv,a1,b,a2.mono (fun k _ e=>?_),fun k g=> .inl g⟩;rcases e with e|e
 ·exact .inl e
 ·exact .inr (.inr (.inr (.inr (.inr e))))
theorem zqi(r:RM)(a b v:Int):¬(r.ingest a b v).2=13:=by
 unfold RM.ingest;repeat' split
 all_goals simp
theorem zpO(r:RM)(n:Int):¬(r.tickL n).2=13:=by unfold RM.tickL;split<;>simp
theorem zkY(r:RM)(a b:Int):¬(r.commit a b).2=13:=by unfold RM.commit;split<;>simp
theorem zpl(r:RM)(a b:Int):¬(r.fail a b).2=13:=by unfold RM.fail;split<;>simp
theorem zpF(r:RM)(n:Int):¬(r.pick n).2.2=13:=by
 unfold RM.pick;repeat' split
 all_goals simp
