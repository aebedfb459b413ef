import Derived.Test.YtndhpgciopcncaaGreatDoorYBrd2
open Go.Value renaming int → I
open Go.IntKind renaming i64 → J
open Nat renaming le_refl → K
set_option linter.unusedVariables false
set_option maxRecDepth 8000
set_option maxHeartbeats 4000000
open Go.Proofs.Tryz
namespace Go.Proofs.YtndhpgciopcncaaGreatDoor.Dr
open Go.RowKit Go.Maps Go.Shelf
theorem kind_Roll(s:Sg)(w:World):Calls prog 334 #[.agg #[I J s.t,I J s.se,I J s.wn]] w fun e w'=>e=.returned (I J 1)/\Below w.1.size w w':=by
 go_enter func334,ntmps334
 go_wp2_with fail
 go_ret
 exact⟨rfl,(Below.refl _ _).alloc (K _) _⟩
theorem segm_Roll(s:Sg)(w:World):Calls prog 335 #[.agg #[I J s.t,I J s.se,I J s.wn]] w fun e w'=>e=.returned (.agg #[I J s.t,I J s.se,I J s.wn])/\Below w.1.size w w':=by
 obtain⟨c,b,a,d⟩:=box2 w (.cells #[I J s.t,I J s.se,I J s.wn] 195) (.cells #[I J s.t,I J s.se,I J s.wn] 146)
 go_enter func335,ntmps335
 go_wp2_with fail
 refine bodyPost_ret (v:=.agg #[I J s.t,I J s.se,I J s.wn]) (results_cell_row results335 _ _ (w.1.size+1) _ _ _ _ rfl b underlying146 rfl (by kernel_rfl)) rfl ?_
 exact⟨rfl,a⟩
theorem keyOf_Roll(s:Sg)(w:World):Calls prog 102 #[.iface 195 (.agg #[I J s.t,I J s.se,I J s.wn])] w fun e w'=>e=.returned (.agg #[I J 1,I J s.t,I J s.se,I J s.wn])/\Below w.1.size w w':=by
 have b0:=zr w (.cells #[I J 0,I J 0,I J 0,I J 0] 162)
 have m:=zG w (.cells #[I J 0,I J 0,I J 0,I J 0] 162)
 have g:Below w.1.size w (w.alloc (.cells #[I J 0,I J 0,I J 0,I J 0] 162)):=(Below.refl _ _).alloc (K _) _
 have p:=fun W=>zd (kind_Roll s W)
 have q:=fun W=>zd (segm_Roll s W)
 have B0:=zd b0
 have n:=zd m
 have h:=zd g
 clear b0 m g
 have x:=jL s
 have y:=vk s
 go_enter func102,ntmps102
 go_wp2_with(first
  |(go_at_call 334;refine(ud (p _)).mono ?_;rintro e z ⟨rfl,a⟩;have c:=zd a;clear a)
  |(go_at_call 335;refine(ud (q _)).mono ?_;rintro e A ⟨rfl,b⟩;have d:w.1.size<(w.alloc (.cells #[I J 0,I J 0,I J 0,I J 0] 162)).1.size:=(by rw[ud n];omega);have f:=(b.block w.1.size (Nat.lt_of_lt_of_le d (ud c).size)).trans (((ud c).block w.1.size d).trans (ud B0));obtain⟨B,C,D,E,-⟩:=zc f;have F:=fun j=>zH f j;have u:=zb f;have o:=zd f;have k:=zd b;clear b f d))
 have r:=xi (i:=3) (xi (i:=2) (xi (i:=1) (xi (i:=0) (ud o) (I J 1)) (I J s.t)) (I J s.se)) (I J s.wn)
 refine bodyPost_ret (v:=.agg #[I J 1,I J s.t,I J s.se,I J s.wn]) (results_cell_row results102 _ _ w.1.size _ _ _ _ rfl r underlying162 rfl (by kernel_rfl)) rfl ?_
 have l:=ud h
 have a:=ud c
 have b:=ud k
 exact⟨rfl,(l.trans (a.mono l.size)).trans ((b.mono (Nat.le_trans l.size a.size)).trans (below4 (K _) _ _ _ _))⟩
theorem kind_Reclaim(s:Sg)(w:World):Calls prog 337 #[.agg #[I J s.t,I J s.se,I J s.wn]] w fun e w'=>e=.returned (I J 2)/\Below w.1.size w w':=by
 go_enter func337,ntmps337
 go_wp2_with fail
 go_ret
 exact⟨rfl,(Below.refl _ _).alloc (K _) _⟩
theorem segm_Reclaim(s:Sg)(w:World):Calls prog 338 #[.agg #[I J s.t,I J s.se,I J s.wn]] w fun e w'=>e=.returned (.agg #[I J s.t,I J s.se,I J s.wn])/\Below w.1.size w w':=by
 obtain⟨c,b,a,d⟩:=box2 w (.cells #[I J s.t,I J s.se,I J s.wn] 197) (.cells #[I J s.t,I J s.se,I J s.wn] 146)
 go_enter func338,ntmps338
 go_wp2_with fail
 refine bodyPost_ret (v:=.agg #[I J s.t,I J s.se,I J s.wn]) (results_cell_row results338 _ _ (w.1.size+1) _ _ _ _ rfl b underlying146 rfl (by kernel_rfl)) rfl ?_
 exact⟨rfl,a⟩
theorem keyOf_Reclaim(s:Sg)(w:World):Calls prog 102 #[.iface 197 (.agg #[I J s.t,I J s.se,I J s.wn])] w fun e w'=>e=.returned (.agg #[I J 2,I J s.t,I J s.se,I J s.wn])/\Below w.1.size w w':=by
 have b0:=zr w (.cells #[I J 0,I J 0,I J 0,I J 0] 162)
 have m:=zG w (.cells #[I J 0,I J 0,I J 0,I J 0] 162)
 have g:Below w.1.size w (w.alloc (.cells #[I J 0,I J 0,I J 0,I J 0] 162)):=(Below.refl _ _).alloc (K _) _
 have p:=fun W=>zd (kind_Reclaim s W)
 have q:=fun W=>zd (segm_Reclaim s W)
 have B0:=zd b0
 have n:=zd m
 have h:=zd g
 clear b0 m g
 have x:=vj s
 have y:=yP s
 go_enter func102,ntmps102
 go_wp2_with(first
  |(go_at_call 337;refine(ud (p _)).mono ?_;rintro e z ⟨rfl,a⟩;have c:=zd a;clear a)
  |(go_at_call 338;refine(ud (q _)).mono ?_;rintro e A ⟨rfl,b⟩;have d:w.1.size<(w.alloc (.cells #[I J 0,I J 0,I J 0,I J 0] 162)).1.size:=(by rw[ud n];omega);have f:=(b.block w.1.size (Nat.lt_of_lt_of_le d (ud c).size)).trans (((ud c).block w.1.size d).trans (ud B0));obtain⟨B,C,D,E,-⟩:=zc f;have F:=fun j=>zH f j;have u:=zb f;have o:=zd f;have k:=zd b;clear b f d))
 have r:=xi (i:=3) (xi (i:=2) (xi (i:=1) (xi (i:=0) (ud o) (I J 2)) (I J s.t)) (I J s.se)) (I J s.wn)
 refine bodyPost_ret (v:=.agg #[I J 2,I J s.t,I J s.se,I J s.wn]) (results_cell_row results102 _ _ w.1.size _ _ _ _ rfl r underlying162 rfl (by kernel_rfl)) rfl ?_
 have l:=ud h
 have a:=ud c
 have b:=ud k
 exact⟨rfl,(l.trans (a.mono l.size)).trans ((b.mono (Nat.le_trans l.size a.size)).trans (below4 (K _) _ _ _ _))⟩
end Go.Proofs.YtndhpgciopcncaaGreatDoor.Dr
namespace Go.Proofs.YtndhpgciopcncaaGreatDoor
open Go.RowKit
def JH(now:Int)(x:Tk):Tk:=if 0<=x.slot/\x.till<=now then x.fail now else x
def Z1(now:Int)(l:List Tk)(i:Nat):List Tk:=(l.take i).map (JH now)++l.drop i
theorem Qm(now:Int)(l:List Tk)(i:Nat):(Z1 now l i).length=l.length:=by unfold Z1;simp;omega
theorem zdY(now:Int)(l:List Tk):Z1 now l l.length=l.map (JH now):=by unfold Z1;simp
theorem KE{now:Int}{l:List Tk}{i:Nat}{x:Tk}(h:l[i]?=some x):(Z1 now l i)[i]?=some x:=by
 have a:i<l.length:=(List.getElem?_eq_some_iff.1 h).1
 unfold Z1
 rw[List.getElem?_append_right (by simp;omega)]
 simp only[List.length_map,List.length_take,List.getElem?_drop]
 rw[show i+(i-min i l.length)=i by omega]
 exact h
theorem YG{now:Int}{l:List Tk}{i:Nat}{x:Tk}(h:l[i]?=some x):Z1 now l (i+1)=(Z1 now l i).set i (JH now x):=by
 obtain⟨a,b⟩:=List.getElem?_eq_some_iff.1 h
 unfold Z1
 rw[List.take_succ_eq_append_getElem a,b,List.map_append,List.append_assoc,List.set_append_right _ _ (by simp;omega),List.drop_eq_getElem_cons a,b]
 simp only[List.length_map,List.length_take,List.map_cons,List.map_nil]
 rw[show i-min i l.length=0 by omega]
 simp
theorem YF{now:Int}{l:List Tk}{i:Nat}{x:Tk}(h:l[i]?=some x)(c:¬(0<=x.slot/\x.till<=now)):Z1 now l (i+1)=Z1 now l i:=by
 rw[YG h]
 have e:JH now x=x:=by unfold JH;rw[if_neg c]
 rw[e]
 obtain⟨a,b⟩:=List.getElem?_eq_some_iff.1 (KE (now:=now) h)
 rw[<-b]
 exact List.set_getElem_self a
def RM.tickL(m:RM)(n:Int):RM×Int:=if n<1\/1000<n\/100000<m.now+n then(m,5)else({m with now:=m.now+n,tk:=m.tk.map (JH (m.now+n))}.settled,0)
theorem ZR{m:RM}{n:Int}(h:n<1\/1000<n\/100000<m.now+n):m.tickL n=(m,5):=by simp[RM.tickL,h]
theorem zca{m:RM}{n:Int}(h:¬(n<1\/1000<n\/100000<m.now+n)):m.tickL n=({m with now:=m.now+n,tk:=m.tk.map (JH (m.now+n))}.settled,0):=by unfold RM.tickL;rw[if_neg h]
theorem zfi{B:Nat}{w:World}{p:Nat}{m:RM}{tv nv pv gv kv:Value}(h:zQ B w p m tv nv pv gv kv)(hB:B<=w.1.size)(hc:m.c.ok)(a7:m.nu.length<=1000000000)(a2:m.gone.length<=1000000000000)(a9:m.pub.length<=1000000000000)(a5:m.tk.length<=1000000000)(a8:∀x∈m.nu,x.ok)(G:0<=m.now/\m.now<=100000)(L:∀x∈m.tk,0<=x.tc/\x.tc<=1000000000)(n:Int)(hn: -9223372036854775808<=n/\n<=9223372036854775807):
  Calls prog 212 #[.pointer (some ⟨p,0,none⟩),I J n] w fun e w'=>e=.returned (I J (m.tickL n).2)/\∃q,zQ B w' p (m.tickL n).1 tv nv pv gv q/\zk (fun k=>k=p\/kv.ownBlock=some k) w w'/\∀k,q.ownBlock=some k->kv.ownBlock=some k\/w.1.size<=k:=by
 obtain⟨aj,al⟩:=hn
 obtain⟨ap,aq⟩:=G
 obtain⟨r7,r8,r9,ad,P,ae,af⟩:=h.rest
 have hp:=h.lt
 have rf:∀j,w.frozen? ⟨p,j,none⟩=false:=fun j=>zH h.head j
 have H:=zd h
 have Z:=zd L
 obtain⟨R,S,a6⟩:=zm h.krow
 subst a6
 clear r8 r9 ad P ae af h L
 by_cases h1:n<1
 ·rw[ZR (.inl h1)]
  go_enter func212,ntmps212
  go_wp2_with fail
  go_ret
  exact⟨rfl,_,ud H,zk.refl _ _,fun k z=> .inl z⟩
 by_cases h2:1000<n
 ·rw[ZR (.inr (.inl h2))]
  go_enter func212,ntmps212
  go_wp2_with fail
  go_ret
  exact⟨rfl,_,ud H,zk.refl _ _,fun k z=> .inl z⟩
 by_cases h3:100000<m.now+n
 ·rw[ZR (.inr (.inr h3))]
  go_enter func212,ntmps212
  go_wp2_with fail
  go_ret
  exact⟨rfl,_,ud H,zk.refl _ _,fun k z=> .inl z⟩
 have HT:=zd (zca (m:=m) (n:=n) (by omega))
 have H1:=zd ((ud H).setNow (m.now+n))
 have U:=zd (zq (i:=7) (v:=I J (m.now+n)) (zk.refl (fun k=>k=p\/(Value.slice R m.tk.length S).ownBlock=some k) w) (.inl rfl))
 rw[ud HT]
 go_enter func212,ntmps212
 go_wp2_with fail
 generalize(w.setCell ⟨p,7,none⟩ (I J (m.now+n)))=W at*
 clear H r7 rf hp HT
 go_loopw [5] (fun y wr=>∃(i:Nat),i<=m.tk.length/\y=I J i/\zQ B wr p {m with now:=m.now+n,tk:=Z1 (m.now+n) m.tk i} tv nv pv gv (.slice R m.tk.length S)/\zk (fun k=>k=p\/(Value.slice R m.tk.length S).ownBlock=some k) w wr) (fun y _=>m.tk.length-(intOf y).toNat)
 case atStart=>exact⟨0,Nat.zero_le _,rfl,by simpa[Z1]using ud H1,ud U⟩
 case round=>
  obtain⟨i,hi,rfl,r,hK⟩:=hrel
  obtain⟨r7,-,-,-,P,-,-⟩:=r.rest
  dsimp only at r7
  have am:=r.lt
  have D:=zd hK
  clear hK
  by_cases a3:i<m.tk.length
  ·obtain⟨x,T⟩:=xz a3
   have ab:=ud Z x (List.mem_of_getElem? T)
   have F:wr.ownsRow B 294 11 (.slice R m.tk.length S) (Z1 (m.now+n) m.tk i).length ((Z1 (m.now+n) m.tk i).flatMap tkV):=r.krow
   obtain⟨gt,ag,ac,_,ah,-,-,-,-,-,-,-,-,-,y9,ar⟩:=zdx F (KE T)
   injection ac with M N O
   subst M O
   have HR:=zd r
   have Q:=zd T
   have ai:(i:Int)<m.tk.length:=by omega
   have C:Nonempty (zj wr.1.size wr):=zj.some _ _
   have A:=fun(u:zj wr.1.size wr) b o h=>u.cell b o h
   clear T N F r
   by_cases hs:0<=x.slot
   ·by_cases ht:x.till<=m.now+n
    ·have a0:=zd (YG (now:=m.now+n) (ud Q))
     go_wp2_with fail
     refine ze wr.1.size (by kernel_rfl) (by kernel_rfl) ?_
     repeat(go_big_quiet_step (fail))
     refine wpQuiet_nil ?_
     rintro⟨w2,a⟩
     dsimp only
     clear A C
     have g:=zd ((ud D).trans (zk.of_below (f:=fun _=>False) a) (fun _ _ e=>e.elim))
     have l:=zd ((ud HR).later a)
     have t:=(ud HR).later a
     rw[<-Qm (m.now+n) m.tk i]at t
     have HF:=zd (zdf t (by rw[Qm];exact a5) (KE (ud Q)) ab (by dsimp only;omega))
     clear a t
     go_wp2_with fail
     refine(ud HF).mono ?_
     rintro e w3 ⟨rfl,s,E⟩
     rw[Qm]at s
     have X:=zd s
     have V:=zd ((ud g).trans E (fun k _ e=> .inr (by rw[e];rfl)))
     clear s E HF l g
     go_wp2_with fail
     go_roundw
     case rel=>
      refine⟨i+1,by omega,by go_num,?_,ud V⟩
      have e:JH (m.now+n) x=x.fail (m.now+n):=by unfold JH;rw[if_pos ⟨hs,ht⟩]
      rw[ud a0,e]
      exact ud X
     case measure=>simp[intOf];omega
    ·have ao:decide (x.till<=m.now+n)=false:=by simp;omega
     have d:=zd (YF (now:=m.now+n) (ud Q) (by omega))
     go_wp2_with fail
     refine ze wr.1.size (by kernel_rfl) (by kernel_rfl) ?_
     repeat(go_big_quiet_step (fail))
     refine wpQuiet_nil ?_
     rintro⟨w2,a⟩
     dsimp only
     clear A C
     have g:=zd ((ud D).trans (zk.of_below (f:=fun _=>False) a) (fun _ _ e=>e.elim))
     have l:=zd ((ud HR).later a)
     clear a
     go_wp2_with fail
     go_roundw
     case rel=>exact⟨i+1,by omega,by go_num,by rw[ud d];exact ud l,ud g⟩
     case measure=>simp[intOf];omega
   ·have an:decide (0<=x.slot)=false:=by simp;omega
    have d:=zd (YF (now:=m.now+n) (ud Q) (by omega))
    go_wp2_with fail
    refine ze wr.1.size (by kernel_rfl) (by kernel_rfl) ?_
    repeat(go_big_quiet_step (fail))
    refine wpQuiet_nil ?_
    rintro⟨w2,a⟩
    dsimp only
    clear A C
    have g:=zd ((ud D).trans (zk.of_below (f:=fun _=>False) a) (fun _ _ e=>e.elim))
    have l:=zd ((ud HR).later a)
    clear a
    go_wp2_with fail
    go_roundw
    case rel=>exact⟨i+1,by omega,by go_num,by rw[ud d];exact ud l,ud g⟩
    case measure=>simp[intOf];omega
  ·obtain rfl:i=m.tk.length:=by omega
   rw[zdY]at r
   have Y:=zd (Km r (by have:=(ud D).size;omega) hc a7 a2 a9 (by simpa using(by omega:m.tk.length<=1000000000000)) a8 (by show 0<=m.now+n/\m.now+n<=100000;omega))
   clear r
   go_wp2_with fail
   refine(ud Y).mono ?_
   rintro e w3 ⟨rfl,q,aa,a4,a1⟩
   go_wp2_with fail
   go_ret
   refine⟨rfl,q,aa,(ud D).trans a4 (fun _ _ h=> .inl h),fun k z=> .inr ?_⟩
   have:=a1 k z;have:=(ud D).size;omega
end Go.Proofs.YtndhpgciopcncaaGreatDoor
