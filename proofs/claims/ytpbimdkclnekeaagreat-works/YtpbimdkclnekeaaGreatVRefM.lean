import Derived.Test.YtpbimdkclnekeaaGreatVZet7
open Go.Value renaming int → I
open Go.IntKind renaming i64 → J
open Option renaming some → O
open Option renaming none → E
open Go renaming World → Q
open Nat renaming le_refl → U
open Go.RowKit renaming Below → Y
open Go.RowKit.Below renaming refl → Z
set_option linter.unusedVariables false
set_option maxRecDepth 8000
set_option maxHeartbeats 4000000
open Go.Proofs.Tryz
namespace Go.Proofs.YtpbimdkclnekeaaGreat
open Go.ChangeMaps (setBlock)
open Go.RowKit Go.Maps Go.Shelf
def zap(now:Int)(x:Tk):Tk:=if 0<=x.slot/\x.till<=now then x.fail now else x
def Zx(now:Int)(l:List Tk)(i:Nat):List Tk:=(l.take i).map (zap now)++l.drop i
theorem QW(now:Int)(l:List Tk)(i:Nat):(Zx now l i).length=l.length:=by unfold Zx;simp;omega
theorem zeM(now:Int)(l:List Tk):Zx now l l.length=l.map (zap now):=by unfold Zx;simp
theorem Vc{now:Int}{l:List Tk}{i:Nat}{x:Tk}(h:l[i]?=O x):(Zx now l i)[i]?=O x:=by
 have a:i<l.length:=(List.getElem?_eq_some_iff.1 h).1
 unfold Zx
 rw[List.getElem?_append_right (by simp;omega)]
 simp only[List.length_map,List.length_take,List.getElem?_drop]
 rw[show i+(i-min i l.length)=i by omega]
 exact h
theorem Kc{now:Int}{l:List Tk}{i:Nat}{x:Tk}(h:l[i]?=O x):Zx now l (i+1)=(Zx now l i).set i (zap now x):=by
 obtain⟨a,b⟩:=List.getElem?_eq_some_iff.1 h
 unfold Zx
 rw[List.take_succ_eq_append_getElem a,b,List.map_append,List.append_assoc,List.set_append_right _ _ (by simp;omega),List.drop_eq_getElem_cons a,b]
 simp only[List.length_map,List.length_take,List.map_cons,List.map_nil]
 rw[show i-min i l.length=0 by omega]
 simp
theorem Kb{now:Int}{l:List Tk}{i:Nat}{x:Tk}(h:l[i]?=O x)(c:¬(0<=x.slot/\x.till<=now)):Zx now l (i+1)=Zx now l i:=by
 rw[Kc h]
 have e:zap now x=x:=by unfold zap;rw[if_neg c]
 rw[e]
 obtain⟨a,b⟩:=List.getElem?_eq_some_iff.1 (Vc (now:=now) h)
 rw[<-b]
 exact List.set_getElem_self a
def RM.tickL(m:RM)(n:Int):RM×Int:=if n<1\/1000<n\/100000<m.now+n then(m,5)else({m with now:=m.now+n,tg:=m.tg.map (zap (m.now+n))}.settled,0)
theorem Xo{m:RM}{n:Int}(h:n<1\/1000<n\/100000<m.now+n):m.tickL n=(m,5):=by simp[RM.tickL,h]
theorem zcA{m:RM}{n:Int}(h:¬(n<1\/1000<n\/100000<m.now+n)):m.tickL n=({m with now:=m.now+n,tg:=m.tg.map (zap (m.now+n))}.settled,0):=by unfold RM.tickL;rw[if_neg h]
theorem zgj{B:Nat}{w:Q}{p:Nat}{m:RM}{tv nv pv gv kv:Value}(h:zJ B w p m tv nv pv gv kv)(hB:B<=w.1.size)(hc:m.c.ok)(ac:m.nu.length<=1000000000)(a7:m.gone.length<=1000000000000)(ae:m.pub.length<=1000000000000)(aa:m.tg.length<=1000000000)(ad:∀x∈m.nu,x.ok)(K:0<=m.now/\m.now<=100000)(L:∀x∈m.tg,0<=x.tc/\x.tc<=1000000000)(n:Int)(hn: -9223372036854775808<=n/\n<=9223372036854775807):
  Calls prog 153 #[.pointer (O ⟨p,0,E⟩),I J n] w fun e w'=>e=.returned (I J (m.tickL n).2)/\∃q,zJ B w' p (m.tickL n).1 tv nv pv gv q/\zk (fun k=>k=p\/kv.ownBlock=O k) w w'/\∀k,q.ownBlock=O k->kv.ownBlock=O k\/w.1.size<=k:=by
 obtain⟨ap,aq⟩:=hn
 obtain⟨aw,ax⟩:=K
 obtain⟨r7,r8,r9,ai,R,aj,al⟩:=h.rest
 have hp:=h.lt
 have rf:∀j,w.frozen? ⟨p,j,E⟩=false:=fun j=>zD h.head j
 have H:=ze h
 have a4:=ze L
 obtain⟨T,V,ab⟩:=zq h.krow
 subst ab
 clear r8 r9 ai R aj al h L
 by_cases h1:n<1
 ·rw[Xo (.inl h1)]
  go_enter func153,ntmps153
  go_wp2_with fail
  go_ret
  exact⟨rfl,_,ud H,zk.refl _ _,fun k z=> .inl z⟩
 by_cases h2:1000<n
 ·rw[Xo (.inr (.inl h2))]
  go_enter func153,ntmps153
  go_wp2_with fail
  go_ret
  exact⟨rfl,_,ud H,zk.refl _ _,fun k z=> .inl z⟩
 by_cases h3:100000<m.now+n
 ·rw[Xo (.inr (.inr h3))]
  go_enter func153,ntmps153
  go_wp2_with fail
  go_ret
  exact⟨rfl,_,ud H,zk.refl _ _,fun k z=> .inl z⟩
 have HT:=ze (zcA (m:=m) (n:=n) (by omega))
 have H1:=ze ((ud H).setNow (m.now+n))
 have a0:=ze (zn (i:=7) (v:=I J (m.now+n)) (zk.refl (fun k=>k=p\/(Value.slice T m.tg.length V).ownBlock=O k) w) (.inl rfl))
 rw[ud HT]
 go_enter func153,ntmps153
 go_wp2_with fail
 generalize(w.setCell ⟨p,7,E⟩ (I J (m.now+n)))=W at*
 clear H r7 rf hp HT
 go_loopw [5] (fun y wr=>∃(i:Nat),i<=m.tg.length/\y=I J i/\zJ B wr p {m with now:=m.now+n,tg:=Zx (m.now+n) m.tg i} tv nv pv gv (.slice T m.tg.length V)/\zk (fun k=>k=p\/(Value.slice T m.tg.length V).ownBlock=O k) w wr) (fun y _=>m.tg.length-(intOf y).toNat)
 case atStart=>exact⟨0,Nat.zero_le _,rfl,by simpa[Zx]using ud H1,ud a0⟩
 case round=>
  obtain⟨i,hi,rfl,r,hK⟩:=hrel
  obtain⟨r7,-,-,-,R,-,-⟩:=r.rest
  dsimp only at r7
  have ar:=r.lt
  have D:=ze hK
  clear hK
  by_cases a8:i<m.tg.length
  ·obtain⟨x,X⟩:=xr a8
   have ag:=ud a4 x (List.mem_of_getElem? X)
   have G:wr.ownsRow B 239 11 (.slice T m.tg.length V) (Zx (m.now+n) m.tg i).length ((Zx (m.now+n) m.tg i).flatMap tkV):=r.krow
   obtain⟨gt,am,ah,_,an,-,-,-,-,-,-,-,-,-,y9,ay⟩:=Zd G (Vc X)
   injection ah with M N P
   subst M P
   have HR:=ze r
   have S:=ze X
   have ao:(i:Int)<m.tg.length:=by omega
   have C:Nonempty (zm wr.1.size wr):=zm.some _ _
   have A:=fun(u:zm wr.1.size wr) b o h=>u.cell b o h
   clear X N G r
   by_cases hs:0<=x.slot
   ·by_cases ht:x.till<=m.now+n
    ·have a5:=ze (Kc (now:=m.now+n) (ud S))
     go_wp2_with fail
     refine zh wr.1.size (by kernel_rfl) (by kernel_rfl) ?_
     repeat(go_big_quiet_step (fail))
     refine wpQuiet_nil ?_
     rintro⟨w2,a⟩
     dsimp only
     clear A C
     have g:=ze ((ud D).trans (zk.of_below (f:=fun _=>False) a) (fun _ _ e=>e.elim))
     have l:=ze ((ud HR).later a)
     have t:=(ud HR).later a
     rw[<-QW (m.now+n) m.tg i]at t
     have HF:=ze (KI t (by rw[QW];exact aa) (Vc (ud S)) ag (by dsimp only;omega))
     clear a t
     go_wp2_with fail
     refine(ud HF).mono ?_
     rintro e w3 ⟨rfl,s,F⟩
     rw[QW]at s
     have a2:=ze s
     have a1:=ze ((ud g).trans F (fun k _ e=> .inr (by rw[e];rfl)))
     clear s F HF l g
     go_wp2_with fail
     go_roundw
     case rel=>
      refine⟨i+1,by omega,by go_num,?_,ud a1⟩
      have e:zap (m.now+n) x=x.fail (m.now+n):=by unfold zap;rw[if_pos ⟨hs,ht⟩]
      rw[ud a5,e]
      exact ud a2
     case measure=>simp[intOf];omega
    ·have av:decide (x.till<=m.now+n)=false:=by simp;omega
     have d:=ze (Kb (now:=m.now+n) (ud S) (by omega))
     go_wp2_with fail
     refine zh wr.1.size (by kernel_rfl) (by kernel_rfl) ?_
     repeat(go_big_quiet_step (fail))
     refine wpQuiet_nil ?_
     rintro⟨w2,a⟩
     dsimp only
     clear A C
     have g:=ze ((ud D).trans (zk.of_below (f:=fun _=>False) a) (fun _ _ e=>e.elim))
     have l:=ze ((ud HR).later a)
     clear a
     go_wp2_with fail
     go_roundw
     case rel=>exact⟨i+1,by omega,by go_num,by rw[ud d];exact ud l,ud g⟩
     case measure=>simp[intOf];omega
   ·have au:decide (0<=x.slot)=false:=by simp;omega
    have d:=ze (Kb (now:=m.now+n) (ud S) (by omega))
    go_wp2_with fail
    refine zh wr.1.size (by kernel_rfl) (by kernel_rfl) ?_
    repeat(go_big_quiet_step (fail))
    refine wpQuiet_nil ?_
    rintro⟨w2,a⟩
    dsimp only
    clear A C
    have g:=ze ((ud D).trans (zk.of_below (f:=fun _=>False) a) (fun _ _ e=>e.elim))
    have l:=ze ((ud HR).later a)
    clear a
    go_wp2_with fail
    go_roundw
    case rel=>exact⟨i+1,by omega,by go_num,by rw[ud d];exact ud l,ud g⟩
    case measure=>simp[intOf];omega
  ·obtain rfl:i=m.tg.length:=by omega
   rw[zeM]at r
   have a3:=ze (Z9 r (by have:=(ud D).size;omega) hc ac a7 ae (by simpa using(by omega:m.tg.length<=1000000000000)) ad (by show 0<=m.now+n/\m.now+n<=100000;omega))
   clear r
   go_wp2_with fail
   refine(ud a3).mono ?_
   rintro e w3 ⟨rfl,q,af,a9,a6⟩
   go_wp2_with fail
   go_ret
   refine⟨rfl,q,af,(ud D).trans a9 (fun _ _ h=> .inl h),fun k z=> .inr ?_⟩
   have:=a6 k z;have:=(ud D).size;omega
set_option maxRecDepth 20000
theorem vx(xs:Array Value)(i:Nat)(v:Value)(h:xs[i]?=O v)(w:Q):(part 3 xs i).run prog w=.ok v w:=by simp[part,h]
theorem eqS1(d:Nat)(a b c a' e f:Int)(w:Q):(Op.equalIn (d+2) 137 (.agg #[I J a,I J b,I J c]) (.agg #[I J a',I J e,I J f])).run prog w=.ok (a==a'&&b==e&&c==f) w:=by
 have j:∃g h i,(prog.fieldsOf 137).toList=[g,h,i]/\g.name≠ "_" /\h.name≠ "_" /\i.name≠ "_" /\g.type=3/\h.type=3/\i.type=3/\g.offset=0/\h.offset=1/\i.offset=2:=by
  refine⟨_,_,_,rfl,?_⟩
  decide
 obtain⟨g,h,i,j,k,l,m,q,r,t3,n,o,p⟩:=j
 rw[run_equalIn_struct w (d+1) 137 _ _ (by kernel_rfl) (by kernel_rfl),j]
 simp only[Op.eqFields,k,l,m,q,r,t3,n,o,p,ne_eq,not_false_eq_true,if_true,Sem.run_bind,Sem.run_ite,Sem.run_pure,
  vx #[I J a,I J b,I J c] 0 (I J a) rfl,vx #[I J a,I J b,I J c] 1 (I J b) rfl,vx #[I J a,I J b,I J c] 2 (I J c) rfl,
  vx #[I J a',I J e,I J f] 0 (I J a') rfl,vx #[I J a',I J e,I J f] 1 (I J e) rfl,vx #[I J a',I J e,I J f] 2 (I J f) rfl,
  Result.andThen_ok,run_equalIn_int _ _ _ _ _ _ _ underlying3]
 cases a==a'<;>cases b==e<;>cases c==f<;>rfl
theorem eqJ1(k a b c f a' g h:Int)(w:Q):(Op.equal 147 (.agg #[I J k,I J a,I J b,I J c]) (.agg #[I J f,I J a',I J g,I J h])).run prog w=.ok (k==f&&(a==a'&&b==g&&c==h)) w:=by
 have i:∃d e,(prog.fieldsOf 147).toList=[d,e]/\d.name≠ "_" /\e.name≠ "_" /\d.type=3/\e.type=137/\d.offset=0/\e.offset=1:=by
  refine⟨_,_,rfl,?_⟩
  decide
 obtain⟨d,e,i,l,m,p,q,n,o⟩:=i
 have j:∀(k a b c:Int) (w:Q),(part 137 #[I J k,I J a,I J b,I J c] 1).run prog w=.ok (.agg #[I J a,I J b,I J c]) w:=fun k a b c w=>by kernel_rfl
 show(Op.equalIn (9999+1) 147 _ _).run prog w=_
 rw[run_equalIn_struct w 9999 147 _ _ (by kernel_rfl) (by kernel_rfl),i]
 simp only[Op.eqFields,l,m,p,q,n,o,ne_eq,not_false_eq_true,if_true,Sem.run_bind,Sem.run_ite,Sem.run_pure,
  vx #[I J k,I J a,I J b,I J c] 0 (I J k) rfl,vx #[I J f,I J a',I J g,I J h] 0 (I J f) rfl,j,
  Result.andThen_ok,show(9999:Nat)=9998+1 from rfl,run_equalIn_int _ _ _ _ _ _ _ underlying3]
 rw[show(9998+1:Nat)=9997+2 from rfl,eqS1]
 cases k==f<;>cases(a==a'&&b==g&&c==h)<;>rfl
theorem zeL(a b:Jk)(w:Q):(binOp .eql 147 (.agg #[I J a.kd,I J a.s.t,I J a.s.se,I J a.s.we]) (.agg #[I J b.kd,I J b.s.t,I J b.s.se,I J b.s.we])).run prog w=.ok (.bool (decide (a=b))) w:=by
 have c:binOp .eql 147 (.agg #[I J a.kd,I J a.s.t,I J a.s.se,I J a.s.we]) (.agg #[I J b.kd,I J b.s.t,I J b.s.se,I J b.s.we])=(Op.equal 147 (.agg #[I J a.kd,I J a.s.t,I J a.s.se,I J a.s.we]) (.agg #[I J b.kd,I J b.s.t,I J b.s.se,I J b.s.we])>>=fun r=>pure (Value.bool r)):=by unfold binOp;rfl
 have d:(a.kd==b.kd&&(a.s.t==b.s.t&&a.s.se==b.s.se&&a.s.we==b.s.we))=decide (a=b):=by
  obtain⟨k,⟨t,s,w⟩⟩:=a
  obtain⟨e,⟨g,f,w'⟩⟩:=b
  rw[Bool.eq_iff_iff,decide_eq_true_iff]
  simp[and_assoc]
 rw[c,Sem.run_bind,eqJ1,d]
 rfl
def Tsk.kd(x:Tsk):Int:=if x.rl then 1 else 2
def Tsk.key(x:Tsk):Jk:=⟨x.kd,x.s⟩
theorem keyOf_any(x:Tsk)(w:Q):Calls prog 87 #[.iface x.jt (.agg #[I J x.s.t,I J x.s.se,I J x.s.we])] w fun e w'=>e=.returned (.agg #[I J x.kd,I J x.s.t,I J x.s.se,I J x.s.we])/\Y w.1.size w w':=by
 obtain⟨rl,s,a,b,c⟩:=x
 cases rl with
 |true=>exact keyOf_Roll s w
 |false=>exact keyOf_Reclaim s w
theorem zez(x:Lse)(a:Nat)(k:Int)(w:Q)(b:w.cell? ⟨a,0,E⟩=O (I J k))(c:a<w.1.size):Calls prog 80 #[.agg #[I J x.kd,I J x.s.t,I J x.s.se,I J x.s.we,I J x.slot,I J x.til],.pointer (O ⟨a,0,E⟩)] w fun e w'=>e=.returned (.bool (x.slot==k))/\Y w.1.size w w':=by
 go_enter func80,ntmps80
 go_wp2_with fail
 go_ret
 exact⟨rfl,(Z _ _).alloc (U _) _⟩
theorem bsen:∀args w,(callFunc 80 args).run prog w=.ok (.enter 80 args) w:=enters_of func80 (by kernel_rfl) rfl
theorem zcG{α:Type}(p:α->Bool)(xs:List α):(decide (0<((xs.filter p).length:Int)))=xs.any p:=by
 rw[Bool.eq_iff_iff,decide_eq_true_iff,List.any_eq_true]
 constructor
 ·intro h
  have c:0<(xs.filter p).length:=by omega
  obtain⟨a,b⟩:=List.exists_mem_of_length_pos c
  exact⟨a,(List.mem_filter.1 b).1,(List.mem_filter.1 b).2⟩
 ·rintro⟨a,b,d⟩
  have:=List.length_pos_of_mem (List.mem_filter.2 ⟨b,d⟩)
  omega
theorem zhg{α:Type}(p:α->Bool){xs d:List α}(h:xs.Perm d):xs.any p=d.any p:=by
 rw[Bool.eq_iff_iff,List.any_eq_true,List.any_eq_true]
 constructor
 ·rintro⟨a,b,c⟩;exact⟨a,h.mem_iff.1 b,c⟩
 ·rintro⟨a,b,c⟩;exact⟨a,h.mem_iff.2 b,c⟩
theorem zet{α β:Type}(p:β->Bool){ps L:List (α×β)}(h:ps.Perm L):(decide (0<(((ps.map (fun q:α×β=>q.2)).filter p).length:Int)))=L.any (fun q=>p q.2):=by
 rw[zcG,<-zhg (fun q:α×β=>p q.2) h]
 induction ps generalizing L with
 |nil=>rfl
 |cons a r b=>simp only[List.map_cons,List.any_cons];rw[b (L:=r) (List.Perm.refl _)]
theorem zhj{w:Q}{b:Nat}{c:Cf}{tv:Value}{ep num:Int}{tb qb:Nat}{TL:List (Jk×Tsk)}{QL:List (Tok×Lse)}(h:zM w b c tv ep num tb qb TL QL)(slot:Int)(v:QL.length<=100000):
  Calls prog 38 #[.pointer (O ⟨b,0,E⟩),I J slot] w fun e w'=>e=.returned (.bool (QL.any (fun p=>p.2.slot==slot)))/\Y w.1.size w w':=by
 have l:=h.lt
 have i:=h.cell10
 have j:∀o,Y w.1.size w (w.alloc o):=fun o=>(Z _ _).alloc (U _) _
 obtain⟨g,q,a,r⟩:=box2 w (.cells #[I J slot] 3) (.cells #[.map (O qb)] 153)
 have u:=ze (zfa qb (w.alloc (.cells #[I J slot] 3)))
 have t:=ze (zeH 131 #[.pointer (O ⟨w.1.size+1,0,E⟩)] ziD 80 #[] #[.pointer (O ⟨w.1.size,0,E⟩)] bsen (fun x=>x.slot==slot) _
  (fun x W n=>zez x w.1.size slot W (by rw[zN ((n.block _ (zd g)).trans g)];rfl) (Nat.lt_of_lt_of_le (zd g) n.size))
  (ziG (ex:=fun _=>False) (w.1.size+1) qb QL _ (fun e=>e) (by rw[r];omega) (by rw[zN q];rfl) (h.leases.later a)) (fun xs ⟨ps,f,e⟩=>by rw[e,List.length_map,f.length_eq];omega))
 have d:=ze a
 have m:=((j (.cells #[I J slot] 3)).cell (p:=⟨b,10,E⟩) l).trans i
 clear h v g q a r
 go_enter func38,ntmps38
 go_wp2_with fail
 refine(ud u).mono ?_
 rintro e y ⟨rfl,rfl⟩
 go_wp2_with fail
 refine(ud t).mono ?_
 rintro e y ⟨xs,⟨ps,f,rfl⟩,rfl,k⟩
 have s:=ze (zet (fun x:Lse=>x.slot==slot) f)
 clear f
 go_wp2_with fail
 go_ret
 exact⟨by rw[<-ud s];rfl,(ud d).trans (k.mono (ud d).size)⟩
theorem zaT(g:Lse)(f:Nat)(x:Tsk)(w:Q)(m:w.1[f]?=O (.cells #[.iface x.jt (.agg #[I J x.s.t,I J x.s.se,I J x.s.we]),I J x.si,I J x.tc,I J x.rest] 162 (0,0))):Calls prog 134 #[.agg #[I J g.kd,I J g.s.t,I J g.s.se,I J g.s.we,I J g.slot,I J g.til],.pointer (O ⟨f,0,E⟩)] w fun e w'=>e=.returned (.bool (decide ((⟨g.kd,g.s⟩:Jk)=x.key)))/\Y w.1.size w w':=by
 have F:=zd m
 obtain⟨A,-⟩:=zc m
 have C:=fun W=>ze (keyOf_any x W)
 have a:Y w.1.size w (w.alloc (.cells #[I J g.kd,I J g.s.t,I J g.s.se,I J g.s.we,I J g.slot,I J g.til] 149)):=(Z _ _).alloc (U _) _
 have v:=zo w (.cells #[I J g.kd,I J g.s.t,I J g.s.se,I J g.s.we,I J g.slot,I J g.til] 149)
 have y:=zF w (.cells #[I J g.kd,I J g.s.t,I J g.s.se,I J g.s.we,I J g.slot,I J g.til] 149)
 have M:=(a.cell (p:=⟨f,0,E⟩) F).trans A
 obtain⟨G,H,K,L,-⟩:=zc v
 have z:=fun W=>zeL ⟨g.kd,g.s⟩ x.key W
 obtain⟨d,n⟩:∃d,decide ((⟨g.kd,g.s⟩:Jk)=x.key)=d:=⟨_,rfl⟩
 rw[n]
 simp only[n]at z
 clear n
 dsimp only[Tsk.key]at z
 have i:=ze a
 have B:=ze y
 clear m v y a A
 go_enter func134,ntmps134
 go_wp2_with fail
 have P:w.1.size<w.1.size+1:=by omega
 have R:f<w.1.size+1:=by omega
 generalize(w.alloc (.cells #[I J g.kd,I J g.s.t,I J g.s.se,I J g.s.we,I J g.slot,I J g.til] 149))=X at*
 generalize D:w.1.size+1=N at*
 have r:Nonempty (zm N X):=zm.some _ _
 have q:=fun(u:zm N X) b o h=>u.cell b o h
 have c:N<=X.1.size:=by rw[ud B];exact U _
 have k:=ze c
 have j:Hid (w.1.size<=N):=by show w.1.size<=N;omega
 clear c D
 refine zh N (by kernel_rfl) (by kernel_rfl) ?_
 repeat(go_big_quiet_step (first
  |(go_at_call 87;exact Calls.later (ud k) (ud (C _)))))
 refine wpQuiet_nil ?_
 rintro⟨S,l⟩
 clear q r
 dsimp only
 go_wp2_with fail
 go_ret
 exact⟨rfl,(ud i).trans (l.mono (ud j))⟩
theorem lsen:∀args w,(callFunc 134 args).run prog w=.ok (.enter 134 args) w:=enters_of func134 (by kernel_rfl) rfl
def kq(QL:List (Tok×Lse))(k:Jk):Bool:=QL.any (fun p=>decide ((⟨p.2.kd,p.2.s⟩:Jk)=k))
theorem zdc{w:Q}{b:Nat}{c:Cf}{tv:Value}{ep num:Int}{tb qb:Nat}{TL:List (Jk×Tsk)}{QL:List (Tok×Lse)}(h:zM w b c tv ep num tb qb TL QL)(x:Tsk)(A:QL.length<=100000):
  Calls prog 84 #[.pointer (O ⟨b,0,E⟩),.agg #[.iface x.jt (.agg #[I J x.s.t,I J x.s.se,I J x.s.we]),I J x.si,I J x.tc,I J x.rest]] w fun e w'=>e=.returned (.bool (kq QL x.key))/\Y w.1.size w w':=by
 have l:=h.lt
 have i:=h.cell10
 have j:∀o,Y w.1.size w (w.alloc o):=fun o=>(Z _ _).alloc (U _) _
 obtain⟨m,q,a,r⟩:=box2 w (.cells #[.iface x.jt (.agg #[I J x.s.t,I J x.s.se,I J x.s.we]),I J x.si,I J x.tc,I J x.rest] 162) (.cells #[.map (O qb)] 153)
 have y:=ze (zfa qb (w.alloc (.cells #[.iface x.jt (.agg #[I J x.s.t,I J x.s.se,I J x.s.we]),I J x.si,I J x.tc,I J x.rest] 162)))
 have v:=ze (zeH 131 #[.pointer (O ⟨w.1.size+1,0,E⟩)] ziD 134 #[] #[.pointer (O ⟨w.1.size,0,E⟩)] lsen (fun g=>decide ((⟨g.kd,g.s⟩:Jk)=x.key)) _
  (fun g W z=>zaT g w.1.size x W ((z.block _ (zd m)).trans m))
  (ziG (ex:=fun _=>False) (w.1.size+1) qb QL _ (fun e=>e) (by rw[r];omega) (by rw[zN q];rfl) (h.leases.later a)) (fun xs ⟨ps,f,e⟩=>by rw[e,List.length_map,f.length_eq];omega))
 have d:=ze a
 have n:=((j (.cells #[.iface x.jt (.agg #[I J x.s.t,I J x.s.se,I J x.s.we]),I J x.si,I J x.tc,I J x.rest] 162)).cell (p:=⟨b,10,E⟩) l).trans i
 clear h A m q a r
 go_enter func84,ntmps84
 go_wp2_with fail
 refine(ud y).mono ?_
 rintro e B ⟨rfl,rfl⟩
 go_wp2_with fail
 refine(ud v).mono ?_
 rintro e B ⟨xs,⟨ps,f,rfl⟩,rfl,k⟩
 have u:=ze (zet (fun g:Lse=>decide ((⟨g.kd,g.s⟩:Jk)=x.key)) f)
 clear f
 go_wp2_with fail
 go_ret
 refine⟨?_,(ud d).trans (k.mono (ud d).size)⟩
 unfold kq
 rw[<-ud u];rfl
structure MS where
 now:Int
 L:LV
 Gl:List (Sg×Unit)
 num:Int
 TL:List (Jk×Tsk)
 QL:List (Tok×Lse)
def Lse.job(g:Lse):Jk:=⟨g.kd,g.s⟩
def Cf.clo(c:Cf)(now:Int)(s:Sg):Prop:=(s.we+1)*c.wh s.t<=now-c.la
def Cf.b(c:Cf):Nat:=((List.range c.n).find? (fun j:Nat=>decide (c.F j= -1))).getD 0
theorem Cf.b_of{c:Cf}(h:∃j:Nat,j<c.n/\c.F j= -1):c.b<c.n/\c.F c.b= -1:=by
 obtain⟨j,f,e⟩:=h
 unfold Cf.b
 cases a:(List.range c.n).find? (fun j:Nat=>decide (c.F j= -1))with
 |none=>exact absurd (decide_eq_true e) (List.find?_eq_none.1 a j (List.mem_range.2 f))
 |some i=>
  have d:=List.find?_some a
  exact⟨List.mem_range.1 (List.mem_of_find?_eq_some a),of_decide_eq_true d⟩
structure Cf.fits(c:Cf):Prop where
 bn:c.b<c.n
 from0:c.F c.b= -1
 div0:∃q:Int,1<=q/\c.W c.b=c.wi*q
 down:∀i:Nat,i<c.n-> -1<=c.F i/\c.F i<c.n
 quot:∀i:Nat,i<c.n->∃q:Int,1<=q/\c.W i=c.wh (c.F i)*q
theorem Cf.clo_mono{c:Cf}{a b:Int}(h:a<=b){s:Sg}(d:c.clo a s):c.clo b s:=by unfold Cf.clo at*;omega
structure zej(c:Cf)(now:Int)(L:LV)(p:Jk×Tsk):Prop where
 key:p.1=p.2.key
 mem:p.2.s∈zx L
 clo:c.clo now p.2.s
 roll:p.2.rl=true->(stL L p.2.s).st=2
 recl:p.2.rl=false->(stL L p.2.s).st≠2
 si:0<=p.2.si/\p.2.si<=now
 tc:0<=p.2.tc/\p.2.tc<=p.2.rest/\p.2.rest<=now+32
structure ziQ(c:Cf)(ep now num:Int)(TL:List (Jk×Tsk))(q:Tok×Lse):Prop where
 job:∃x,zV TL q.2.job=O x/\x.rest<=now
 ep:q.1.ep=ep
 num:1<=q.1.num/\q.1.num<=num
 til:now<q.2.til/\q.2.til<=now+c.le
structure yZ(c:Cf)(now:Int)(L:LV)(Gl:List (Sg×Unit)):Prop where
 inr:∀p∈L,inR c p.1
 nl:(zx L).Nodup
 raw:∀p∈L,p.1.t= -1->p.2.st=1/\1<=p.2.cl.cnt/\ -(p.2.cl.cnt*2147483648)<=p.2.cl.sum/\p.2.cl.sum<=p.2.cl.cnt*2147483648
 tier:∀p∈L,0<=p.1.t->p.2.st=2\/p.2.st=3
 disj:∀p∈L,p.1∉zv Gl
 ng:(zv Gl).Nodup
 pubc:∀p∈L,p.2.st=3->c.clo now p.1
 goc:∀k∈zv Gl,c.clo now k
 above:∀p∈L,p.1.t= -1->(⟨(c.b:Int),p.1.se,p.1.we*c.wi/c.W c.b⟩:Sg)∈zx L\/(⟨(c.b:Int),p.1.se,p.1.we*c.wi/c.W c.b⟩:Sg)∈zv Gl
 used:xg L<=c.qu
structure MOk(c:Cf)(ep:Int)(m:MS):Prop where
 now:0<=m.now/\m.now<=100000
 seg:yZ c m.now m.L m.Gl
 tg:∀p∈m.TL,zej c m.now m.L p
 nt:(zv m.TL).Nodup
 leas:∀q∈m.QL,ziQ c ep m.now m.num m.TL q
 nq:(zv m.QL).Nodup
 jobs:(m.QL.map (fun q=>q.2.job)).Nodup
 num:0<=m.num
section
variable {c:Cf} {now:Int} {L:LV} {Gl:List (Sg×Unit)}
theorem yZ.use{now:Int}(h:yZ c now L Gl):∀p∈L,1<=yM p.2:=fun p a=>by
 have e:=h.inr p a
 by_cases f:p.1.t= -1
 ·obtain⟨b,d,_⟩:=h.raw p a f
  unfold yM;rw[if_pos b];exact d
 ·have:=h.tier p a (by have:=e.2.1;omega)
  unfold yM;rw[if_neg (by omega)];omega
theorem zgB:∀(l:List Int),(∀x∈l,1<=x)->(l.length:Int)<=xX l
 |[],_=>by simp[xX]
 |a::l,h=>by
  have c:=h a (by simp)
  have d:=zgB l (fun x b=>h x (by simp[b]))
  simp only[xX,List.length_cons];omega
theorem zcx:∀(l:List Int) (a:Int),(∀x∈l,0<=x)->a∈l->a<=xX l
 |[],_,_,h=>by simp at h
 |b::l,a,h,d=>by
  have e:=h b (by simp)
  have i:0<=xX l:=by
   clear d e
   induction l with
   |nil=>simp[xX]
   |cons x l g=>
    have:=h x (by simp)
    have:=g (fun y c=>h y (by simp at c ⊢;rcases c with c|c<;>simp[c]))
    simp only[xX];omega
  rcases List.mem_cons.1 d with rfl|d
  ·simp only[xX];omega
  ·have:=zcx l a (fun x f=>h x (by simp[f])) d
   simp only[xX];omega
theorem yZ.len(h:yZ c now L Gl):(L.length:Int)<=xg L:=by
 have:=zgB (L.map (fun p=>yM p.2)) (fun x b=>by obtain⟨p,a,rfl⟩:=List.mem_map.1 b;exact h.use p a)
 simpa[xg]using this
theorem yZ.len400(h:yZ c now L Gl)(a:c.ok):L.length<=400:=by
 have b:=h.len;have d:=h.used;have e:=a.qu;omega
theorem yZ.cnt(h:yZ c now L Gl)(d:c.ok):∀p∈L,p.1.t= -1->p.2.cl.cnt<=400:=fun p a f=>by
 obtain⟨b,i,_⟩:=h.raw p a f
 have j:yM p.2<=xg L:=zcx _ _ (fun x g=>by obtain⟨q,e,rfl⟩:=List.mem_map.1 g;have:=h.use q e;omega) (List.mem_map.2 ⟨p,a,rfl⟩)
 have k:yM p.2=p.2.cl.cnt:=by unfold yM;rw[if_pos b]
 have l:=h.used;have m:=d.qu;omega
theorem yZ.u0(h:yZ c now L Gl)(a:c.ok):0<=xg L/\xg L<=400:=by
 have b:=h.len;have d:=h.used;have e:=a.qu;omega
theorem yZ.st(h:yZ c now L Gl):∀p∈L,p.2.st≠0:=fun p a=>by
 have b:=h.inr p a
 by_cases d:p.1.t= -1
 ·obtain⟨e,_⟩:=h.raw p a d;omega
 ·have:=h.tier p a (by have:=b.2.1;omega);omega
end
theorem Xi{α:Type}[DecidableEq α]:∀(l m:List α),l.Nodup->(∀x∈l,x∈m)->l.length<=m.length
 |[],_,_,_=>by simp
 |a::l,m,hn,c=>by
  have b:=c a (by simp)
  obtain⟨f,g⟩:=List.nodup_cons.1 hn
  have:=Xi l (m.erase a) g (fun x d=>(List.mem_erase_of_ne (fun e=>f (by rw[<-e];exact d))).2 (c x (by simp[d])))
  rw[List.length_erase_of_mem b]at this
  have h:0<m.length:=List.length_pos_of_mem b
  simp only[List.length_cons];omega
section
variable {c:Cf} {ep:Int} {m:MS}
theorem MOk.tlen(h:MOk c ep m):m.TL.length<=2*m.L.length:=by
 have d:=Xi (zv m.TL) ((zx m.L).map (fun s=>(⟨1,s⟩:Jk))++(zx m.L).map (fun s=>(⟨2,s⟩:Jk))) h.nt (fun k e=>by
  obtain⟨p,f,rfl⟩:=List.mem_map.1 (show k∈m.TL.map (·.1)from e)
  have a:=h.tg p f
  rw[a.key]
  cases b:p.2.rl with
  |true=>exact List.mem_append_left _ (List.mem_map.2 ⟨p.2.s,a.mem,by simp[Tsk.key,Tsk.kd,b]⟩)
  |false=>exact List.mem_append_right _ (List.mem_map.2 ⟨p.2.s,a.mem,by simp[Tsk.key,Tsk.kd,b]⟩))
 simp[zv,zx]at d
 omega
theorem MOk.qlen(h:MOk c ep m):m.QL.length<=m.TL.length:=by
 have a:=Xi (m.QL.map (fun q=>q.2.job)) (zv m.TL) h.jobs (fun k b=>by
  obtain⟨q,d,rfl⟩:=List.mem_map.1 b
  obtain⟨x,e,_⟩:=(h.leas q d).job
  exact List.mem_map.2 ⟨_,zK e,rfl⟩)
 simpa[zv]using a
theorem MOk.t800(h:MOk c ep m)(a:c.ok):m.TL.length<=800:=by have:=h.tlen;have:=h.seg.len400 a;omega
theorem MOk.q800(h:MOk c ep m)(a:c.ok):m.QL.length<=800:=by have:=h.t800 a;have:=h.qlen;omega
theorem MOk.mem_inR(h:MOk c ep m){s:Sg}(b:s∈zx m.L):inR c s:=by
 obtain⟨p,a,rfl⟩:=List.mem_map.1 (show s∈m.L.map (·.1)from b)
 exact h.seg.inr p a
theorem MOk.wfk(h:MOk c ep m):∀p∈m.TL,p.1.wf:=fun p b=>by
 have a:=h.tg p b
 rw[a.key]
 refine⟨?_,(h.mem_inR a.mem).1⟩
 unfold Tsk.key Tsk.kd yS
 dsimp only
 split<;>omega
theorem MOk.binv(h:MOk c ep m)(b:c.ok):ziP 1000000 100000 m.TL m.QL:=by
 have e:=h.q800 b
 have hn:=h.now
 refine⟨fun p a=>?_,fun p a=>?_,h.wfk,by have:=h.t800 b;omega,h.nt,h.nq⟩
 ·obtain⟨x,d,_⟩:=(h.leas p a).job;exact⟨x,d⟩
 ·have:=(h.tg p a).tc;omega
end
theorem zeU{L:LV}(hn:(zx L).Nodup)(s k:Sg)(v:SV):kV (yi L s v) k=if k=s then O v else kV L k:=ja (L:=L) hn s v k
theorem zgt{L:LV}(hn:(zx L).Nodup)(s k:Sg)(v:SV):stL (yi L s v) k=if k=s then v else stL L k:=by
 unfold stL;rw[zeU hn];split<;>rfl
theorem zld{L:LV}(hn:(zx L).Nodup){p:Sg×SV}(a:p∈L):stL L p.1=p.2:=by
 unfold stL;rw[show kV L p.1=O p.2 from xu (L:=L) hn a];rfl
theorem zY{L:LV}{s:Sg}(b:s∈zx L):(s,stL L s)∈L:=by
 obtain⟨v,hv,a⟩:=Vf b
 unfold stL;rw[hv];exact a
theorem zeN{c:Cf}{ep:Int}{now n':Int}{L:LV}{num:Int}{TL:List (Jk×Tsk)}{QL:List (Tok×Lse)}(u:now<=n')
  (X:∀p∈TL,zej c now L p) (nt:(zv TL).Nodup) (W:∀q∈QL,ziQ c ep now num TL q) (nq:(zv QL).Nodup) (jobs:(QL.map (fun q=>q.2.job)).Nodup)
  {m:List (Jk×Tsk)} {Q1:List (Tok×Lse)} (h:zbz n' TL QL m Q1):
  (∀p∈m,zej c n' L p)/\(zv m).Nodup/\(zv Q1).Nodup/\(Q1.map (fun q=>q.2.job)).Nodup/\(∀q∈Q1,q∈QL)/\(∀q∈QL,n'<q.2.til->q∈Q1)/\(∀q∈Q1,∃x,zV m q.2.job=O x/\x.rest<=now)/\(∀k,k∈zv m↔k∈zv TL):=by
 induction h with
 |nil=>
  refine⟨fun p v=>?_,nt,nq,jobs,fun q h=>h,fun q h _=>h,fun q h=>(W q h).job,fun k=>Iff.rfl⟩
  have:=X p v
  exact⟨this.key,this.mem,Cf.clo_mono u this.clo,this.roll,this.recl,⟨this.si.1,by have:=this.si;omega⟩,by have:=this.tc;omega⟩
 | @step m Q1 t g x _ K V P ih=>
  obtain⟨i1,i2,i3,i4,i5,R,S,T⟩:=ih
  have n:=zK K
  have z:=zK P
  have r:∀q∈xt Q1 t,q.2.job≠g.job:=fun q d e=>by
   obtain⟨D,F⟩:=zZ.1 d
   have w:Q1.Pairwise (fun a b=>a.2.job≠b.2.job):=List.pairwise_map.1 i4
   obtain⟨i,M,C⟩:=List.getElem_of_mem D
   obtain⟨j,N,A⟩:=List.getElem_of_mem n
   rcases Nat.lt_trichotomy i j with o|o|o
   ·have:=List.pairwise_iff_getElem.1 w i j M N o;rw[C,A]at this;exact this e
   ·subst o;rw[C]at A;exact F (by rw[A])
   ·have:=List.pairwise_iff_getElem.1 w j i N M o;rw[C,A]at this;exact this e.symm
  have a0:x.rest<=now:=by
   obtain⟨y,H,G⟩:=S _ n
   have:y=x:=by have:=H.symm.trans P;injection this
   rw[<-this];exact G
  refine⟨fun p v=>?_,qC i2,qr i3,?_,fun q d=>i5 q (zZ.1 d).1,fun q d l=>?_,fun q d=>?_,fun k=>?_⟩
  ·rcases yD v with rfl|⟨v,_⟩
   ·have f:=i1 _ z
    have hb:=ZG (x.tc+1).toNat
    exact⟨f.key,f.mem,f.clo,f.roll,f.recl,f.si,by have:=f.tc;simp only[Tsk.failed]at*;omega⟩
   ·exact i1 p v
  ·unfold xt
   exact i4.sublist (List.Sublist.map _ (List.filter_sublist))
  ·refine zZ.2 ⟨R q d l,fun e=>?_⟩
   have B:=xu i3 (R q d l)
   rw[e,K]at B;injection B with B;rw[<-B]at l;omega
  ·obtain⟨y,H,G⟩:=S q (zZ.1 d).1
   refine⟨y,?_,G⟩
   rw[ja i2,if_neg (show¬q.2.job=⟨g.kd,g.s⟩from r q d)];exact H
  ·rw[xp,T k]
   constructor
   ·rintro(h|rfl)
    ·exact h
    ·exact(T _).1 (List.mem_map.2 ⟨_,z,rfl⟩)
   ·exact .inl
theorem MOk.exps{c:Cf}{ep:Int}{m:MS}(h:MOk c ep m){n':Int}(hn:m.now<=n'/\n'<=100000){d:List (Jk×Tsk)}{QL':List (Tok×Lse)}(g:zbz n' m.TL m.QL d QL')(l:∀p∈QL',n'<p.2.til):
  MOk c ep {m with now:=n',TL:=d,QL:=QL'}:=by
 obtain⟨i1,i2,i3,i4,i5,s,o,t⟩:=zeN hn.1 h.tg h.nt h.leas h.nq h.jobs g
 have a:=h.seg
 refine⟨⟨by have:=h.now;show 0<=n';omega,hn.2⟩,⟨a.inr,a.nl,a.raw,a.tier,a.disj,a.ng,fun p j f=>Cf.clo_mono hn.1 (a.pubc p j f),fun k i=>Cf.clo_mono hn.1 (a.goc k i),a.above,a.used⟩,i1,i2,fun q b=>?_,i3,i4,h.num⟩
 have e:=h.leas q (i5 q b)
 obtain⟨x,n,r⟩:=o q b
 exact⟨⟨x,n,by show x.rest<=n';omega⟩,e.ep,e.num,l q b,by have:=e.til;show q.2.til<=n'+c.le;omega⟩
def vG(a b:Int):Int:=if a<b then-1 else if b<a then 1 else 0
theorem ZB(a:Int)(w:Q):Calls prog 177 #[I J a] w fun e w'=>e=.returned (.bool false)/\w'=w:=by
 have h:(a==a)=true:=by simp
 go_enter func177,ntmps177
 go_wp2_with fail
 go_ret
 exact⟨by simp,rfl⟩
theorem vY(a b:Int)(w:Q):Calls prog 137 #[I J a,I J b] w fun e w'=>e=.returned (I J (vG a b))/\w'=w:=by
 rcases Int.lt_trichotomy a b with h|h|h
 ·rw[show vG a b= -1 from by simp[vG,h]]
  go_enter func137,ntmps137
  go_wp2_with(go_at_call 177;refine(ZB _ _).mono ?_;rintro e d ⟨rfl,rfl⟩)
  go_ret
  exact⟨rfl,rfl⟩
 ·rw[show vG a b=0 from by simp[vG,h]]
  have c:¬a<b:=by omega
  have f:¬b<a:=by omega
  have g:decide (a<b)=false:=by simpa using c
  have i:decide (b<a)=false:=by simpa using f
  go_enter func137,ntmps137
  go_wp2_with(go_at_call 177;refine(ZB _ _).mono ?_;rintro e d ⟨rfl,rfl⟩)
  go_ret
  exact⟨rfl,rfl⟩
 ·have c:¬a<b:=by omega
  rw[show vG a b=1 from by simp[vG,h,c]]
  have g:decide (a<b)=false:=by simpa using c
  go_enter func137,ntmps137
  go_wp2_with(go_at_call 177;refine(ZB _ _).mono ?_;rintro e d ⟨rfl,rfl⟩)
  go_ret
  exact⟨rfl,rfl⟩
def orL:List Int->Int
 |[]=>0
 |a::r=>if a=0 then orL r else a
theorem zfF{xs:List Int}{k:Nat}(h:∀j,j<k->xs[j]?=O 0)(c:k<=xs.length):orL xs=orL (xs.drop k):=by
 induction k generalizing xs with
 |zero=>rfl
 |succ k d=>
  cases xs with
  |nil=>simp at c
  |cons a r=>
   have b:=h 0 (by omega)
   simp at b
   subst b
   show(if(0:Int)=0 then orL r else 0)=orL (r.drop k)
   rw[if_pos rfl]
   exact d (fun j e=>by have:=h (j+1) (by omega);simpa using this) (by simpa using c)
theorem ziH(xs:List Int)(n:xs.length<=1000)(w:Q)(g:Nat)(c:∀(k:Nat) (x:Int),xs[k]?=O x->w.cell? ⟨g,k,E⟩=O (I J x)):
  Calls prog 138 #[.slice (O ⟨g,0,E⟩) xs.length xs.length] w fun e w'=>e=.returned (I J (orL xs))/\w'=w:=by
 go_enter func138,ntmps138
 go_wp2_with fail
 go_loopw [5,8] (fun _ i wr=>∃k:Nat,k<=xs.length/\i=I J k/\wr=w/\∀j,j<k->xs[j]?=O 0) (fun _ i _=>xs.length-(intOf i).toNat)
 case atStart=>exact⟨0,Nat.zero_le _,rfl,rfl,fun j h=>absurd h (Nat.not_lt_zero _)⟩
 case round=>
  obtain⟨k,t,rfl,rfl,d⟩:=hrel
  by_cases a:k<xs.length
  ·obtain⟨x,l⟩:=xr a
   have r:=c k x l
   have o:(k:Int)<xs.length:=by omega
   have m:=ze l
   have b:=ze d
   have p:=ze c
   clear l d c
   by_cases f:x=0
   ·subst f
    go_wp2_with fail
    go_roundw
    case rel=>
     refine⟨k+1,by omega,by simp,trivial,fun j s=>?_⟩
     by_cases e:j=k
     ·rw[e];exact ud m
     ·exact ud b j (by omega)
    case measure=>simp[intOf];omega
   ·have q:(x==0)=false:=by simpa using f
    go_wp2_with fail
    go_ret
    refine⟨?_,rfl⟩
    rw[zfF (ud b) (Nat.le_of_lt a)]
    obtain⟨n,ex⟩:=List.getElem?_eq_some_iff.1 (ud m)
    rw[List.drop_eq_getElem_cons n,ex]
    show _=Ending.returned (I J (if x=0 then _ else x))
    rw[if_neg f]
    rfl
  ·obtain rfl:k=xs.length:=by omega
   have b:=ze d
   clear c d
   go_wp2_with fail
   go_ret
   refine⟨?_,rfl⟩
   rw[zfF (ud b) (U _),List.drop_length]
   rfl
def Tk.holds(ep num:Int)(x:Tk):Bool:=decide (0<=x.slot)&&(decide (x.ep=ep)&&decide (x.num=num))
def jd(l:List Tk)(ep num:Int):Int:=match l.findIdx? (Tk.holds ep num)with
 |some i=>i
 |none=> -1
theorem zda{l:List Tk}{ep num:Int}{i:Nat}{x:Tk}(d:l[i]?=O x)(h:x.holds ep num=true)(hn:∀j,j<i->∀y,l[j]?=O y->y.holds ep num=false):jd l ep num=i:=by
 obtain⟨b,a⟩:=List.getElem?_eq_some_iff.1 d
 have:l.findIdx? (Tk.holds ep num)=O i:=by
  rw[List.findIdx?_eq_some_iff_getElem]
  refine⟨b,by rw[a];exact h,fun j c=>?_⟩
  have:=hn j c _ (List.getElem?_eq_getElem (by omega))
  simp[this]
 unfold jd;rw[this]
theorem zdb{l:List Tk}{ep num:Int}(hn:∀j,j<l.length->∀y,l[j]?=O y->y.holds ep num=false):jd l ep num= -1:=by
 have:l.findIdx? (Tk.holds ep num)=E:=by
  rw[List.findIdx?_eq_none_iff]
  intro x b
  obtain⟨j,a,e⟩:=List.getElem_of_mem b
  exact hn j a x (by rw[List.getElem?_eq_getElem a,e])
 unfold jd;rw[this]
theorem Yu{B:Nat}{w:Q}{p:Nat}{m:RM}{tv nv pv gv kv:Value}(h:zJ B w p m tv nv pv gv kv)(a1:m.tg.length<=1000000000)(ep num:Int):
  Calls prog 202 #[.pointer (O ⟨p,0,E⟩),.agg #[I J ep,I J num]] w fun e w'=>e=.returned (I J (jd m.tg ep num))/\Y w.1.size w w':=by
 obtain⟨ak,ck,F⟩:=zq h.krow
 subst F
 have H:=ze h
 clear h
 go_enter func202,ntmps202
 go_wp2_with fail
 go_loopw [5] (fun y wr=>∃(k:Nat),k<=m.tg.length/\y=I J k/\(∀j,j<k->∀x,m.tg[j]?=O x->x.holds ep num=false)/\Y (w.1.size+1) (w.alloc (.cells #[I J ep,I J num] 49)) wr) (fun y _=>m.tg.length-(intOf y).toNat)
 case atStart=>exact⟨0,Nat.zero_le _,rfl,fun j D=>absurd D (Nat.not_lt_zero _),Z _ _⟩
 case round=>
  obtain⟨k,hk,rfl,W,v⟩:=hrel
  have C:=ze W
  clear W
  have n:Y w.1.size w wr:=((Z _ _).alloc (U _) _).trans (v.mono (by omega))
  have a5:w.1.size<wr.1.size:=by have:=v.size;simp at this;omega
  have s:=(v.block w.1.size (by omega)).trans (zo w _)
  obtain⟨s0,s1,-⟩:=zc s
  clear s
  have z:=(ud H).later n
  obtain⟨-,-,-,-,a6,-,-⟩:=z.rest
  have a3:=z.lt
  by_cases G:k<m.tg.length
  ·obtain⟨x,P⟩:=xr G
   obtain⟨g,V,hv,_,a0,-,-,-,-,-,-,-,y7,y8,y9,-⟩:=Zd z.krow P
   injection hv with L M N
   subst L N
   have T:=ze P
   have a2:(k:Int)<m.tg.length:=by omega
   clear P z M
   have r:Nonempty (zm wr.1.size wr):=zm.some _ _
   have q:=fun(u:zm wr.1.size wr) b o h=>u.cell b o h
   have d:x.holds ep num=false->∀(f:Q),Y wr.1.size wr f->∃(S:Nat),S<=m.tg.length/\I J ((k:Int)+1)=I J S/\(∀j,j<S->∀x,m.tg[j]?=O x->x.holds ep num=false)/\Y (w.1.size+1) (w.alloc (.cells #[I J ep,I J num] 49)) f:=fun R f a=>by
    refine⟨k+1,by omega,by go_num,fun j D y hj'=>?_,v.trans (a.mono (by omega))⟩
    by_cases e:j=k
    ·subst e;rw[ud T]at hj';cases hj';exact R
    ·exact ud C j (by omega) y hj'
   have c:=ze d
   have t:=ze n
   clear d v n
   by_cases X:0<=x.slot
   ·by_cases A:x.ep=ep
    ·by_cases K:x.num=num
     ·have i:=ze (zda (ud T) (by unfold Tk.holds;simp[X,A,K]) (ud C))
      subst A K
      go_wp2_with fail
      refine zh wr.1.size (by kernel_rfl) (by kernel_rfl) ?_
      repeat(go_big_quiet_step (fail))
      refine wpQuiet_nil ?_
      rintro⟨f,a⟩
      clear q r
      dsimp only
      go_wp2_with fail
      go_ret
      exact⟨by rw[ud i];rfl,(ud t).trans (a.mono (ud t).size)⟩
     ·have i:Hid (x.holds ep num=false):=by show x.holds ep num=false;unfold Tk.holds;simp[K]
      subst A
      go_wp2_with fail
      refine zh wr.1.size (by kernel_rfl) (by kernel_rfl) ?_
      repeat(go_big_quiet_step (fail))
      refine wpQuiet_nil ?_
      rintro⟨f,a⟩
      clear q r
      dsimp only
      go_wp2_with fail
      go_roundw
      case rel=>exact ud c (ud i) f a
      case measure=>simp[intOf];omega
    ·have i:Hid (x.holds ep num=false):=by show x.holds ep num=false;unfold Tk.holds;simp[A]
     go_wp2_with fail
     refine zh wr.1.size (by kernel_rfl) (by kernel_rfl) ?_
     repeat(go_big_quiet_step (fail))
     refine wpQuiet_nil ?_
     rintro⟨f,a⟩
     clear q r
     dsimp only
     go_wp2_with fail
     go_roundw
     case rel=>exact ud c (ud i) f a
     case measure=>simp[intOf];omega
   ·have i:Hid (x.holds ep num=false):=by show x.holds ep num=false;unfold Tk.holds;simp[X]
    have a4:decide (0<=x.slot)=false:=by simp;omega
    go_wp2_with fail
    refine zh wr.1.size (by kernel_rfl) (by kernel_rfl) ?_
    repeat(go_big_quiet_step (fail))
    refine wpQuiet_nil ?_
    rintro⟨f,a⟩
    clear q r
    dsimp only
    go_wp2_with fail
    go_roundw
    case rel=>exact ud c (ud i) f a
    case measure=>simp[intOf];omega
  ·have i:=ze (zdb (l:=m.tg) (ep:=ep) (num:=num) (fun j D y hy=>ud C j (by omega) y hy))
   go_wp2_with fail
   go_ret
   exact⟨by rw[ud i];rfl,n⟩
theorem VD{c:Cf}(h:xF c.s c.le c.la c.wi c.ke c.qu c.n c.F c.W c.K=true):c.ok:=by
 unfold xF at h
 simp only[Bool.and_eq_true,qq,yV]at h
 obtain⟨⟨⟨⟨⟨⟨⟨⟨d,e⟩,f⟩,g⟩,j⟩,k⟩,m⟩,l⟩,o⟩:=h
 have b:∀i,i<c.n->(-1<=c.F i/\c.F i<=(c.n:Int)-1)/\(1<=c.W i/\c.W i<=1000)/\(0<=c.K i/\c.K i<=1000):=fun i a=>by
  have:=l i a
  unfold vS at this
  simp only[Bool.and_eq_true,qq]at this
  exact⟨this.1.1,this.1.2,this.2⟩
 exact⟨by omega,by omega,g.1,by omega,fun i a=>(b i a).2.1,fun i a=>by have:=(b i a).1;omega,fun i a=>(b i a).2.2,j,f,k,d,e⟩
structure ziR(wi:Int)(k:Nat)(F W K:Nat->Int):Prop where
 tF:∀i,i<k-> -1<=F i/\F i<i
 tW:∀i,i<k->1<=W i/\W i<=1000
 tQ:∀i,i<k->∃q:Int,1<=q/\W i=xd wi W (F i)*q
 tK:∀i,i<k->0<=K i/\K i<=1000
theorem zeI{F:Nat->Int}{n:Nat}(h:∀i,i<n-> -1<=F i/\F i<i):∀(k:Nat) (t:Int),0<=t->t<n->t<k->down F k t=true
 |0,t,a,b,c=>by omega
 |k+1,t,a,b,c=>by
  rw[down]
  have d:=h t.toNat (by omega)
  by_cases e:F t.toNat= -1
  ·simp[e]
  ·rw[zeI h k (F t.toNat) (by omega) (by omega) (by omega)];simp
theorem zlk{c:Cf}(p:1<=c.s/\c.s<=4)(f:1<=c.le/\c.le<=100)(e:0<=c.la/\c.la<=100)(k:1<=c.wi/\c.wi<=50)(d:0<=c.ke/\c.ke<=1000)(j:1<=c.qu/\c.qu<=400)(hn:1<=c.n/\c.n<=4)(h:ziR c.wi c.n c.F c.W c.K):
  xF c.s c.le c.la c.wi c.ke c.qu c.n c.F c.W c.K=true/\c.fits:=by
 constructor
 ·unfold xF
  simp only[Bool.and_eq_true,qq,yV]
  refine⟨⟨⟨⟨⟨⟨⟨⟨p,f⟩,e⟩,k⟩,d⟩,j⟩,by omega⟩,fun i a=>?_⟩,fun i a=>?_⟩
  ·unfold vS
   simp only[Bool.and_eq_true,qq]
   have:=h.tF i a
   exact⟨⟨by omega,h.tW i a⟩,h.tK i a⟩
  ·unfold zaq
   simp only[Bool.and_eq_true,beq_iff_eq]
   obtain⟨q,_,g⟩:=h.tQ i a
   exact⟨by rw[g];exact Int.mul_emod_right _ _,zeI h.tF c.n i (by omega) (by omega) (by omega)⟩
 ·have r:=h.tF 0 (by omega)
  obtain⟨m,l⟩:=Cf.b_of (c:=c) ⟨0,by omega,by omega⟩
  obtain⟨q,o,g⟩:=h.tQ c.b m
  exact⟨m,l,⟨q,o,by rw[g,l];simp[xd]⟩,fun i a=>by have:=h.tF i a;omega,h.tQ⟩
theorem zbH{F:Nat->Int}{n:Nat}(a:∀i,i<n-> -1<=F i/\F i<n):∀(k:Nat) (t:Int),0<=t->t<n->down F k t=true->∃j:Nat,j<n/\F j= -1
 |0,t,b,c,h=>by simp[down]at h
 |k+1,t,b,c,h=>by
  rw[down]at h
  have d:=a t.toNat (by omega)
  by_cases e:F t.toNat= -1
  ·exact⟨t.toNat,by omega,e⟩
  ·simp[e]at h
   exact zbH a k (F t.toNat) (by omega) (by omega) h
theorem zdO{c:Cf}(h:xF c.s c.le c.la c.wi c.ke c.qu c.n c.F c.W c.K=true):c.fits:=by
 have j:=VD h
 unfold xF at h
 simp only[Bool.and_eq_true,qq,yV]at h
 obtain⟨⟨-,x⟩,p⟩:=h
 have g:∀i,i<c.n-> -1<=c.F i/\c.F i<c.n:=fun i d=>j.F i d
 have a:∀i,i<c.n->c.W i%xd c.wi c.W (c.F i)=0/\down c.F c.n i=true:=fun i d=>by
  have:=p i d
  unfold zaq at this
  simpa only[Bool.and_eq_true,beq_iff_eq]using this
 have k:∀i:Nat,i<c.n->∃q:Int,1<=q/\c.W i=c.wh (c.F i)*q:=fun i d=>by
  have f:=(a i d).1
  have u:=(j.W i d).1
  have v:=(j.wh (g i d).1 (g i d).2).1
  change c.W i%c.wh (c.F i)=0 at f
  obtain⟨q,k⟩:=Int.dvd_of_emod_eq_zero f
  refine⟨q,?_,k⟩
  rcases Int.lt_or_le q 1 with r|l
  ·exfalso
   have w:c.wh (c.F i)*q<=c.wh (c.F i)*0:=Int.mul_le_mul_of_nonneg_left (by omega) (by omega)
   omega
  ·exact l
 have t:=j.n1
 obtain⟨o,e⟩:=Cf.b_of (c:=c) (zbH g c.n ((0:Nat):Int) (by omega) (by omega) (a 0 (by omega)).2)
 obtain⟨q,f,m⟩:=k c.b o
 refine⟨o,e,⟨q,f,?_⟩,g,k⟩
 rw[m,e];unfold Cf.wh xd;rw[if_pos rfl]
def qW(now:Int)(TL:List (Jk×Tsk))(s:Sg):List (Jk×Tsk):=match zV TL ⟨1,s⟩with|some _=>TL|none=>qt TL ⟨1,s⟩ ⟨true,s,now,0,0⟩
def yF(now:Int)(TL:List (Jk×Tsk))(s:Sg):List (Jk×Tsk):=match zV TL ⟨2,s⟩with|some _=>TL|none=>qt TL ⟨2,s⟩ ⟨false,s,now,0,0⟩
section
variable {c:Cf} {now:Int} {L:LV}
structure jy(c:Cf)(now:Int)(L:LV)(TL T1:List (Jk×Tsk)):Prop where
 ok:∀p∈T1,zej c now L p
 nt:(zv T1).Nodup
 old:∀k x,zV TL k=O x->zV T1 k=O x
theorem zch{TL a:List (Jk×Tsk)}(h:jy c now L TL a)(hn:0<=now){k:Jk}{x:Tsk}(f:zV a k=E)(g:zej c now L (k,x)):jy c now L TL (qt a k x):=by
 refine⟨fun p b=>?_,qC h.nt,fun j y d=>?_⟩
 ·rcases yD b with rfl|⟨b,_⟩
  ·exact g
  ·exact h.ok p b
 ·have:=h.old j y d
  rw[ja h.nt,if_neg (fun e=>by rw[e,f]at this;cases this)];exact this
theorem zic{TL a:List (Jk×Tsk)}(h:jy c now L TL a)(hn:0<=now){s:Sg}(d:s∈zx L)(f:c.clo now s)(g:(stL L s).st=2):jy c now L TL (qW now a s)/\∀k,k∈zv (qW now a s)↔k∈zv a\/k=⟨1,s⟩:=by
 unfold qW
 cases b:zV a ⟨1,s⟩with
 |some x=>exact⟨h,fun k=>⟨.inl,fun e=>e.elim id (fun e=>by rw[e];exact List.mem_map.2 ⟨_,zK b,rfl⟩)⟩⟩
 |none=>exact⟨zch h hn b ⟨rfl,d,f,fun _=>g,fun e=>by simp at e,⟨hn,Int.le_refl _⟩,by dsimp only;omega⟩,fun k=>xp⟩
theorem zib{TL a:List (Jk×Tsk)}(h:jy c now L TL a)(hn:0<=now){s:Sg}(d:s∈zx L)(f:c.clo now s)(g:(stL L s).st≠2):jy c now L TL (yF now a s)/\∀k,k∈zv (yF now a s)↔k∈zv a\/k=⟨2,s⟩:=by
 unfold yF
 cases b:zV a ⟨2,s⟩with
 |some x=>exact⟨h,fun k=>⟨.inl,fun e=>e.elim id (fun e=>by rw[e];exact List.mem_map.2 ⟨_,zK b,rfl⟩)⟩⟩
 |none=>exact⟨zch h hn b ⟨rfl,d,f,fun e=>by simp at e,fun _=>g,⟨hn,Int.le_refl _⟩,by dsimp only;omega⟩,fun k=>xp⟩
theorem JN(hn:0<=now):∀(b:List Sg) {TL a:List (Jk×Tsk)},jy c now L TL a->(∀s∈b,s∈zx L/\c.clo now s/\(stL L s).st=2)->jy c now L TL (b.foldl (qW now) a)/\∀k,k∈zv (b.foldl (qW now) a)↔k∈zv a\/∃s∈b,k=⟨1,s⟩
 |[],TL,a,h,_=>⟨h,fun k=>by simp⟩
 |s::b,TL,a,h,d=>by
  obtain⟨e,f,g⟩:=d s (by simp)
  obtain⟨i,j⟩:=zic h hn e f g
  obtain⟨l,m⟩:=JN hn b i (fun x n=>d x (by simp[n]))
  refine⟨l,fun k=>?_⟩
  show k∈zv (b.foldl (qW now) (qW now a s))↔_
  rw[m k,j k];simp[or_assoc]
theorem JL(hn:0<=now):∀(b:List Sg) {TL a:List (Jk×Tsk)},jy c now L TL a->(∀s∈b,s∈zx L/\c.clo now s/\(stL L s).st≠2)->jy c now L TL (b.foldl (yF now) a)/\∀k,k∈zv (b.foldl (yF now) a)↔k∈zv a\/∃s∈b,k=⟨2,s⟩
 |[],TL,a,h,_=>⟨h,fun k=>by simp⟩
 |s::b,TL,a,h,d=>by
  obtain⟨e,f,g⟩:=d s (by simp)
  obtain⟨i,j⟩:=zib h hn e f g
  obtain⟨l,m⟩:=JL hn b i (fun x n=>d x (by simp[n]))
  refine⟨l,fun k=>?_⟩
  show k∈zv (b.foldl (yF now) (yF now a s))↔_
  rw[m k,j k];simp[or_assoc]
end
theorem zjc{c:Cf}(m:c.ok)(n:c.fits){now:Int}{k:Sg}(o:k.t= -1)(h:c.clo now ⟨(c.b:Int),k.se,k.we*c.wi/c.W c.b⟩):c.clo now k:=by
 obtain⟨q,u,d⟩:=n.div0
 have p:=m.wi1
 have g:c.wh (c.b:Int)=c.W c.b:=by unfold Cf.wh xd;rw[if_neg (by omega)];simp
 have i:c.wh (-1)=c.wi:=by unfold Cf.wh xd;rw[if_pos rfl]
 unfold Cf.clo at*
 rw[g]at h
 rw[o,i]
 have f:0<c.W c.b:=by rw[d];exact Int.mul_pos (by omega) (by omega)
 have j:k.we*c.wi<(k.we*c.wi/c.W c.b+1)*c.W c.b:=Int.lt_ediv_add_one_mul_self _ f
 generalize k.we*c.wi/c.W c.b=a at*
 have l:k.we*c.wi<((a+1)*q)*c.wi:=by
  have e:(a+1)*c.W c.b=((a+1)*q)*c.wi:=by rw[d,Int.mul_comm c.wi q,<-Int.mul_assoc]
  rw[<-e];exact j
 have r:k.we<(a+1)*q:=Int.lt_of_mul_lt_mul_right l (by omega)
 have s:(k.we+1)*c.wi<=((a+1)*q)*c.wi:=Int.mul_le_mul_of_nonneg_right (by omega) (by omega)
 have e:(a+1)*c.W c.b=((a+1)*q)*c.wi:=by rw[d,Int.mul_comm c.wi q,<-Int.mul_assoc]
 rw[e]at h;omega
theorem zci{c:Cf}(j:c.ok)(m:c.fits){now:Int}{L:LV}{Gl:List (Sg×Unit)}(h:yZ c now L Gl){k:Sg}(v:k∈zx L)(n:vo c L now k=true):c.clo now k/\(stL L k).st≠2:=by
 have f:=zY v
 have e:=h.inr _ f
 unfold vo at n
 simp only[Bool.and_eq_true,Bool.not_eq_true',beq_eq_false_iff_ne,ne_eq,decide_eq_true_eq]at n
 obtain⟨⟨p,C⟩,q⟩:=n
 refine⟨?_,p⟩
 by_cases g:k.t= -1
 ·have z:=j.n1
  have u:(⟨(c.b:Int),k.se,k.we*c.wi/c.W c.b⟩:Sg)∈kg c k:=by
   have o:c.wh k.t=c.wi:=by rw[g];unfold Cf.wh xd;rw[if_pos rfl]
   unfold kg K0
   rw[o,List.map_map]
   exact List.mem_map.2 ⟨c.b,List.mem_filter.2 ⟨by simpa using m.bn,by simp[m.from0,g]⟩,rfl⟩
  have l:c.clo now ⟨(c.b:Int),k.se,k.we*c.wi/c.W c.b⟩:=by
   rcases h.above _ f g with i|i
   ·have d:=zY i
    rcases h.tier _ d (by show(0:Int)<=(c.b:Int);omega)with a|a
    ·exfalso
     unfold XZ at q
     have s:((vC c k).filter (fun x=>(stL L x.1).st==2)).length=0:=by
      have:=of_decide_eq_true (show decide ((((vC c k).filter (fun x=>(stL L x.1).st==2)).length:Int)=0)=true from by simpa using q)
      omega
     have w:=(jF j e ⟨(c.b:Int),k.se,k.we*c.wi/c.W c.b⟩).2 u
     obtain⟨y,A,r⟩:=List.mem_map.1 w
     have:y∈(vC c k).filter (fun x=>(stL L x.1).st==2):=List.mem_filter.2 ⟨A,by rw[r];simpa using a⟩
     rw[List.eq_nil_of_length_eq_zero s]at this;simp at this
    ·exact h.pubc _ d a
   ·exact h.goc _ i
  exact zjc j m g l
 ·rcases h.tier _ f (by have B: -1<=k.t:=e.2.1;show 0<=k.t;omega)with a|a
  ·exact absurd a p
  ·exact h.pubc _ f a
theorem zcj{c:Cf}{now:Int}{L:LV}{b:List (Sg×Unit)}{k:Sg}(a:vq c b L now k=true):c.clo now k/\(stL L k).st=2:=by
 unfold vq at a
 simp only[Bool.and_eq_true,beq_iff_eq,decide_eq_true_eq]at a
 exact⟨a.2,a.1.2⟩
structure qU(c:Cf)(m:MS)(TL':List (Jk×Tsk)):Prop where
 to:∃(Bs:List (Sg×Unit)) (ys1 ys2:List Sg),(∀x,x∈zv Bs↔∃k,k∈zx m.L/\(stL m.L k).st=2/\x∈kg c k)/\(∀s,s∈ys1↔s∈zx m.L/\vq c Bs m.L m.now s=true)/\(∀s,s∈ys2↔s∈zx m.L/\vo c m.L m.now s=true)/\TL'=ys2.foldl (yF m.now) (ys1.foldl (qW m.now) m.TL)
theorem MOk.post{c:Cf}{ep:Int}{m:MS}(r:c.ok)(t:c.fits)(h:MOk c ep m){a:List (Jk×Tsk)}(v:qU c m a):
  MOk c ep {m with TL:=a}/\(∀k,k∈zv m.TL->k∈zv a)/\(∀s,s∈zx m.L->vo c m.L m.now s=true->(⟨2,s⟩:Jk)∈zv a):=by
 obtain⟨B,j,l,C,n,d,rfl⟩:=v.to
 have p:jy c m.now m.L m.TL m.TL:=⟨h.tg,h.nt,fun _ _ e=>e⟩
 obtain⟨z,A⟩:=JN h.now.1 j p (fun s b=>⟨((n s).1 b).1,zcj ((n s).1 b).2⟩)
 obtain⟨i,o⟩:=JL h.now.1 l z (fun s b=>⟨((d s).1 b).1,zci r t h.seg ((d s).1 b).1 ((d s).1 b).2⟩)
 refine⟨⟨h.now,h.seg,i.ok,i.nt,fun q w=>?_,h.nq,h.jobs,h.num⟩,fun k u=>(o k).2 (.inl ((A k).2 (.inl u))),fun s b g=>(o _).2 (.inr ⟨s,(d s).2 ⟨b,g⟩,rfl⟩)⟩
 have f:=h.leas q w
 obtain⟨x,y,g⟩:=f.job
 exact⟨⟨x,i.old _ _ y,g⟩,f.ep,f.num,f.til⟩
section
variable {c:Cf} {ep:Int} {m:MS}
theorem zhF{QL:List (Tok×Lse)}(hn:(QL.map (fun q=>q.2.job)).Nodup){p q:Tok×Lse}(l:p∈QL)(m:q∈QL)(e:p.2.job=q.2.job):p=q:=by
 have d:QL.Pairwise (fun a b=>a.2.job≠b.2.job):=List.pairwise_map.1 hn
 obtain⟨i,h,f⟩:=List.getElem_of_mem l
 obtain⟨j,k,g⟩:=List.getElem_of_mem m
 rcases Nat.lt_trichotomy i j with c|c|c
 ·have:=List.pairwise_iff_getElem.1 d i j h k c;rw[f,g]at this;exact absurd e this
 ·subst c;rw[<-f,g]
 ·have:=List.pairwise_iff_getElem.1 d j i k h c;rw[f,g]at this;exact absurd e.symm this
theorem jX{QL:List (Tok×Lse)}(hn:(QL.map (fun q=>q.2.job)).Nodup)(t:Tok):((xt QL t).map (fun q=>q.2.job)).Nodup:=by
 unfold xt
 exact hn.sublist (List.Sublist.map _ (List.filter_sublist))
theorem jH{QL:List (Tok×Lse)}(hn:(QL.map (fun q=>q.2.job)).Nodup){t:Tok}{g:Lse}(c:(t,g)∈QL){q:Tok×Lse}(d:q∈xt QL t):q.2.job≠g.job:=fun e=>by
 obtain⟨a,b⟩:=zZ.1 d
 exact b (by rw[zhF hn a c e])
theorem MOk.failed(h:MOk c ep m){t:Tok}{g:Lse}{x:Tsk}(n:zV m.QL t=O g)(l:zV m.TL g.job=O x):
  MOk c ep {m with TL:=qt m.TL g.job (x.failed m.now),QL:=xt m.QL t}:=by
 have b:=zK n
 have i:=zK l
 have o:x.rest<=m.now:=by
  obtain⟨y,j,f⟩:=(h.leas _ b).job
  have:y=x:=by have:=j.symm.trans l;injection this
  rw[<-this];exact f
 have r:=ZG (x.tc+1).toNat
 have a:=h.tg _ i
 refine⟨h.now,h.seg,fun p e=>?_,qC h.nt,fun q k=>?_,qr h.nq,jX h.jobs t,h.num⟩
 ·rcases yD e with rfl|⟨e,_⟩
  ·exact⟨a.key,a.mem,a.clo,a.roll,a.recl,a.si,by have:=a.tc;simp only[Tsk.failed]at*;omega⟩
  ·exact h.tg p e
 ·have d:=h.leas q (zZ.1 k).1
  obtain⟨y,j,f⟩:=d.job
  refine⟨⟨y,?_,f⟩,d.ep,d.num,d.til⟩
  rw[ja h.nt,if_neg (jH h.jobs b k)];exact j
theorem MOk.picked(h:MOk c ep m)(r:c.ok){k:Jk}{x:Tsk}(o:zV m.TL k=O x)(w:x.rest<=m.now)(l:kq m.QL x.key=false)(slot:Int):
  MOk c ep {m with num:=m.num+1,QL:=qt m.QL ⟨ep,m.num+1⟩ ⟨x.kd,x.s,slot,m.now+c.le⟩}/\(⟨ep,m.num+1⟩:Tok)∉zv m.QL/\(∀q∈m.QL,q.2.job≠x.key):=by
 have f:(⟨ep,m.num+1⟩:Tok)∉zv m.QL:=fun v=>by
  obtain⟨q,d,e⟩:=List.mem_map.1 v
  have:=(h.leas q d).num
  rw[e]at this;dsimp only at this;omega
 have i:∀q∈m.QL,q.2.job≠x.key:=fun q d e=>by
  unfold kq at l
  rw[List.any_eq_false]at l
  exact l q d (by simpa[Lse.job]using e)
 have j:qt m.QL ⟨ep,m.num+1⟩ ⟨x.kd,x.s,slot,m.now+c.le⟩=m.QL++[(⟨ep,m.num+1⟩,⟨x.kd,x.s,slot,m.now+c.le⟩)]:=by unfold qt;rw[if_neg f]
 have t:=(h.tg _ (zK o)).key
 have u:=r.le
 refine⟨⟨h.now,h.seg,h.tg,h.nt,fun q d=>?_,qC h.nq,?_,by have:=h.num;show 0<=m.num+1;omega⟩,f,i⟩
 ·rcases yD d with rfl|⟨d,_⟩
  ·refine⟨⟨x,?_,w⟩,rfl,⟨by have:=h.num;show 1<=m.num+1;omega,Int.le_refl _⟩,by show m.now<m.now+c.le;omega,Int.le_refl _⟩
   show zV m.TL x.key=O x
   rw[<-t];exact o
  ·have g:=h.leas q d
   exact⟨g.job,g.ep,⟨g.num.1,by have:=g.num.2;show q.1.num<=m.num+1;omega⟩,g.til⟩
 ·show((qt m.QL ⟨ep,m.num+1⟩ ⟨x.kd,x.s,slot,m.now+c.le⟩).map (fun q=>q.2.job)).Nodup
  rw[j,List.map_append,List.nodup_append]
  refine⟨h.jobs,by simp,fun a p b n=>?_⟩
  obtain⟨q,d,rfl⟩:=List.mem_map.1 p
  simp only[List.map_cons,List.map_nil,List.mem_singleton]at n
  subst n
  exact i q d
theorem MOk.other_seg(h:MOk c ep m){k:Jk}{x:Tsk}(o:zV m.TL k=O x){p:Jk×Tsk}(n:p∈xt m.TL k):p.2.s≠x.s:=fun e=>by
 obtain⟨l,d⟩:=zZ.1 n
 have g:=h.tg p l
 have j:=h.tg _ (zK o)
 have b:k=x.key:=j.key
 cases i:p.2.rl with
 |true=>
  have a:=g.roll i
  rw[e]at a
  cases f:x.rl with
  |true=>exact d (by rw[g.key,b];simp[Tsk.key,Tsk.kd,i,f,e])
  |false=>exact j.recl f a
 |false=>
  have a:=g.recl i
  rw[e]at a
  cases f:x.rl with
  |true=>exact a (j.roll f)
  |false=>exact d (by rw[g.key,b];simp[Tsk.key,Tsk.kd,i,f,e])
theorem MOk.done_leas(h:MOk c ep m){t:Tok}{g:Lse}(d:zV m.QL t=O g):∀q∈xt m.QL t,ziQ c ep m.now m.num (xt m.TL g.job) q:=fun q b=>by
 have a:=h.leas q (zZ.1 b).1
 obtain⟨y,f,e⟩:=a.job
 refine⟨⟨y,?_,e⟩,a.ep,a.num,a.til⟩
 rw[zbQ h.nt,if_neg (jH h.jobs (zK d) b)];exact f
theorem KO{L:LV}(hn:(zx L).Nodup){s:Sg}{u v:SV}(a:(s,u)∈L)(f:SV->Int):xX ((yi L s v).map (fun p=>f p.2))=xX (L.map (fun p=>f p.2))-f u+f v:=by
 unfold yi
 rw[if_pos (show s∈zx L from List.mem_map.2 ⟨_,a,rfl⟩)]
 exact YE f hn a
theorem zgF{s:Sg}{u:SV}(f:SV->Int):∀{L:LV},(zx L).Nodup->(s,u)∈L->xX ((xt L s).map (fun p=>f p.2))=xX (L.map (fun p=>f p.2))-f u
 |[],_,h=>by simp at h
 |p::L,hn,h=>by
  obtain⟨b,c⟩:=List.nodup_cons.1 (show(p.1::zx L).Nodup from hn)
  rcases List.mem_cons.1 h with rfl|h
  ·have e:xt ((s,u)::L) s=L:=by
    unfold xt
    rw[List.filter_cons,if_neg (by simp)]
    refine List.filter_eq_self.2 (fun q d=>?_)
    simp only[decide_eq_true_eq]
    exact fun e=>b (List.mem_map.2 ⟨q,d,e⟩)
   rw[e];simp only[List.map_cons,xX];omega
  ·have a:p.1≠s:=fun e=>b (List.mem_map.2 ⟨_,h,e.symm⟩)
   have e:xt (p::L) s=p::xt L s:=by unfold xt;rw[List.filter_cons,if_pos (by simpa using a)]
   have g:=zgF f c h
   rw[e];simp only[List.map_cons,xX,g];omega
theorem MOk.rolled(h:MOk c ep m){t:Tok}{g:Lse}{x:Tsk}(C:zV m.QL t=O g)(A:zV m.TL g.job=O x)(D:x.rl=true)(i:Cl):
  MOk c ep {m with L:=yi m.L x.s ⟨3,i⟩,TL:=xt m.TL g.job,QL:=xt m.QL t}/\(∀f:SV->Int,xX ((yi m.L x.s ⟨3,i⟩).map (fun p=>f p.2))=xX (m.L.map (fun p=>f p.2))-f (stL m.L x.s)+f ⟨3,i⟩)/\(stL m.L x.s).st=2/\x.s∈zx m.L:=by
 have q:=h.tg _ (zK A)
 have u:(x.s,stL m.L x.s)∈m.L:=zY q.mem
 have z:(stL m.L x.s).st=2:=q.roll D
 have l:=fun f:SV->Int=>KO (v:=⟨3,i⟩) h.seg.nl u f
 have b:=h.seg
 have r:x.s.t≠ -1:=fun e=>by have G:(stL m.L x.s).st=1:=(b.raw _ u e).1;omega
 have d:∀k,k∈zx (yi m.L x.s ⟨3,i⟩)↔k∈zx m.L:=fun k=>by
  rw[xV];exact⟨fun e=>e.elim id (fun e=>e▸q.mem),.inl⟩
 refine⟨⟨h.now,⟨fun p a=>?_,kM b.nl,fun p a o=>?_,fun p a o=>?_,fun p a=>?_,b.ng,fun p a B=>?_,b.goc,fun p a o=>?_,?_⟩,fun p a=>?_,qr h.nt,h.done_leas C,qr h.nq,jX h.jobs t,h.num⟩,l,z,q.mem⟩
 ·rcases qm a with rfl|⟨a,_⟩
  ·exact(show inR c x.s from b.inr _ u)
  ·exact b.inr p a
 ·rcases qm a with rfl|⟨a,_⟩
  ·exact absurd o r
  ·exact b.raw p a o
 ·rcases qm a with rfl|⟨a,_⟩
  ·exact .inr rfl
  ·exact b.tier p a o
 ·rcases qm a with rfl|⟨a,_⟩
  ·exact(show x.s∉zv m.Gl from b.disj _ u)
  ·exact b.disj p a
 ·rcases qm a with rfl|⟨a,_⟩
  ·exact q.clo
  ·exact b.pubc p a B
 ·rcases qm a with rfl|⟨a,_⟩
  ·exact absurd o r
  ·rcases b.above p a o with w|w
   ·exact .inl ((d _).2 w)
   ·exact .inr w
 ·have:=l yM
  have H:yM (stL m.L x.s)=2:=by unfold yM;rw[if_neg (by omega)]
  have F:yM ⟨3,i⟩=2:=by unfold yM;rw[if_neg (by dsimp only;omega)]
  have:=b.used
  show xg (yi m.L x.s ⟨3,i⟩)<=c.qu
  unfold xg at*;omega
 ·have y:=h.other_seg A a
  have n:=h.tg p (zZ.1 a).1
  have j:stL (yi m.L x.s ⟨3,i⟩) p.2.s=stL m.L p.2.s:=by rw[zgt b.nl,if_neg y]
  exact⟨n.key,(d _).2 n.mem,n.clo,fun e=>by show(stL (yi m.L x.s ⟨3,i⟩) p.2.s).st=2;rw[j];exact n.roll e,fun e=>by show(stL (yi m.L x.s ⟨3,i⟩) p.2.s).st≠2;rw[j];exact n.recl e,n.si,n.tc⟩
theorem MOk.reclaimed(h:MOk c ep m){t:Tok}{g:Lse}{x:Tsk}(D:zV m.QL t=O g)(B:zV m.TL g.job=O x)(F:x.rl=false):
  MOk c ep {m with L:=xt m.L x.s,Gl:=qt m.Gl x.s (),TL:=xt m.TL g.job,QL:=xt m.QL t}/\(∀f:SV->Int,xX ((xt m.L x.s).map (fun p=>f p.2))=xX (m.L.map (fun p=>f p.2))-f (stL m.L x.s))/\(stL m.L x.s).st≠2/\x.s∈zx m.L/\(qt m.Gl x.s ()).length=m.Gl.length+1:=by
 have v:=h.tg _ (zK B)
 have y:(x.s,stL m.L x.s)∈m.L:=zY v.mem
 have A:(stL m.L x.s).st≠2:=v.recl F
 have q:=fun f:SV->Int=>zgF f h.seg.nl y
 have j:=h.seg
 have z:x.s∉zv m.Gl:=j.disj _ y
 have a:∀p,p∈xt m.L x.s->p∈m.L/\p.1≠x.s:=fun p d=>zZ.1 d
 have n:∀k,k∈zx m.L->k≠x.s->k∈zx (xt m.L x.s):=fun k l i=>by
  obtain⟨p,d,rfl⟩:=List.mem_map.1 (show k∈m.L.map (·.1)from l)
  exact List.mem_map.2 ⟨p,zZ.2 ⟨d,i⟩,rfl⟩
 have u:∀k,k≠x.s->stL (xt m.L x.s) k=stL m.L k:=fun k i=>by
  unfold stL
  rw[show kV (xt m.L x.s) k=kV m.L k from by
   have:=zbQ (L:=m.L) j.nl x.s k
   rw[if_neg i]at this;exact this]
 refine⟨⟨h.now,⟨fun p d=>j.inr p (a p d).1,qr (L:=m.L) j.nl,fun p d=>j.raw p (a p d).1,fun p d=>j.tier p (a p d).1,fun p d=>?_,qC j.ng,fun p d=>j.pubc p (a p d).1,fun k l=>?_,fun p d G=>?_,?_⟩,fun p d=>?_,qr h.nt,h.done_leas D,qr h.nq,jX h.jobs t,h.num⟩,q,A,v.mem,?_⟩
 ·intro l
  rcases xp.1 l with l|l
  ·exact j.disj p (a p d).1 l
  ·exact(a p d).2 l
 ·rcases xp.1 l with l|rfl
  ·exact j.goc k l
  ·exact v.clo
 ·rcases j.above p (a p d).1 G with w|w
  ·by_cases e:(⟨(c.b:Int),p.1.se,p.1.we*c.wi/c.W c.b⟩:Sg)=x.s
   ·exact .inr (xp.2 (.inr e))
   ·exact .inl (n _ w e)
  ·exact .inr (xp.2 (.inl w))
 ·have H:=q yM
  have C:=j.use _ y
  have:=j.used
  show xg (xt m.L x.s)<=c.qu
  unfold xg at*;dsimp only at C;omega
 ·have i:=h.other_seg B d
  have r:=h.tg p (zZ.1 d).1
  have o:=u p.2.s i
  exact⟨r.key,n _ r.mem i,r.clo,fun e=>by show(stL (xt m.L x.s) p.2.s).st=2;rw[o];exact r.roll e,fun e=>by show(stL (xt m.L x.s) p.2.s).st≠2;rw[o];exact r.recl e,r.si,r.tc⟩
 ·rw[kY,if_neg z]
end
end Go.Proofs.YtpbimdkclnekeaaGreat
