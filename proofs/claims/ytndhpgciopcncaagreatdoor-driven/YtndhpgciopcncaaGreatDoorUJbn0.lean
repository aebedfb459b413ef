import Derived.Test.YtndhpgciopcncaaGreatDoorUMlo0
import Derived.Shelf.SlSortCmp.NoneTotal
import Derived.Test.YtndhpgciopcncaaGreatDoorUBnw0
open Option renaming none → I
open Go.Value renaming int → J
open Go.IntKind renaming i64 → O
open Option renaming some → E
open Nat renaming le_refl → Q
open Go renaming World → Y
open Go.RowKit renaming Below → Z
set_option linter.unusedVariables false
set_option maxRecDepth 20000
set_option maxHeartbeats 2000000
open Go.Proofs.Tryz
namespace Go.Proofs.YtndhpgciopcncaaGreatDoor
open Go.ChangeMaps (setBlock)
open Go.RowKit Go.Maps Go.Shelf
theorem zbw(a:Option Addr)(cap:Nat)(w:Y):
  Calls prog 165 #[.slice a 0 cap,.func (.func 106) #[] #[]] w fun e w'=>e=.returned (.tuple #[])/\w'=w:=
 AnyF.slices_SortFunc_none (P:=prog) Tryz.sortTsk a cap (.func (.func 106) #[] #[]) w
theorem zeC{w:Y}{Bm b:Nat}(d:Bm<w.1.size)(i:w.cell? ⟨Bm,0,I⟩=E (.map (E b)))(c:zV xI w b []):
  Calls prog 164 #[.func (.func 158) #[] #[.pointer (E ⟨Bm,0,I⟩)]] w fun e w'=>∃a cap,e=.returned (.slice a 0 cap)/\Z w.1.size w w':=by
 have g:=zd (zbW _ _ zgh w (by simp) (zhj id id Bm b [] (fun _ _=>rfl) w d i c))
 clear i c
 go_enter func164,ntmps164
 go_wp2_with fail
 refine(ud g).mono ?_
 rintro e w' ⟨xs,v,⟨ps,j,k⟩,rfl,c,h⟩
 have f:xs=[]:=by rw[k,List.perm_nil.1 j];rfl
 subst f
 obtain⟨a,cap,rfl⟩:=zS c
 have l:=zd h
 clear c h g k j
 simp only[List.length_nil]
 go_wp2_with fail
 go_ret
 exact⟨a,cap,rfl,ud l⟩
theorem zjk{w:Y}{Bm b:Nat}(d:Bm<w.1.size)(h:w.cell? ⟨Bm,0,I⟩=E (.map (E b)))(c:zV xI w b []):
  Calls prog 105 #[.func (.func 158) #[] #[.pointer (E ⟨Bm,0,I⟩)],.func (.func 106) #[] #[]] w fun e w'=>∃a cap,e=.returned (.slice a 0 cap)/\Z w.1.size w w':=by
 have f:=zd (zeC d h c)
 clear h c
 go_enter func105,ntmps105
 go_wp2_with fail
 refine(ud f).mono ?_
 rintro e k ⟨a,cap,rfl,g⟩
 have j:=zd (zbw a cap k)
 have i:=zd g
 clear g f
 go_wp2_with fail
 refine(ud j).mono ?_
 rintro e l ⟨rfl,rfl⟩
 go_wp2_with fail
 go_ret
 exact⟨a,cap,rfl,ud i⟩
theorem zjM{w:Y}{b:Nat}{c:Cf}{tv:Value}{ep num:Int}{tb qb:Nat}{QL:List (Tok×Lse)}(h:zA w b c tv ep num tb qb [] QL):
  Calls prog 50 #[.pointer (E ⟨b,0,I⟩)] w fun e w'=>e=.returned (.slice I 0 0)/\Z w.1.size w w':=by
 have m:=h.lt
 have l:=h.cell9
 have j:=zd (zcF tb w)
 have b0:=zm w (.cells #[.map (E tb)] 169)
 have d:Z w.1.size w (w.alloc (.cells #[.map (E tb)] 169)):=(Below.refl _ _).alloc (Q _) _
 have i:=zd (zjk (w:=w.alloc (.cells #[.map (E tb)] 169)) (Bm:=w.1.size) (b:=tb) (by rw[zL];omega) (by rw[xD b0];rfl) (h.later d).td)
 have f:=zd d
 clear h b0 d
 go_enter func50,ntmps50
 go_wp2_with fail
 refine(ud j).mono ?_
 rintro e n ⟨rfl,rfl⟩
 go_wp2_with fail
 refine(ud i).mono ?_
 rintro e o ⟨a,cap,rfl,g⟩
 have k:=zd ((ud f).trans (g.mono (ud f).size))
 clear l j i g
 go_wp2_with fail
 refine wp_loop_rounds 1 ?_
 rw[rounds_succ]
 go_wp2_with fail
 go_ret
 exact⟨rfl,ud k⟩
theorem zhw{dn:Bool}{w:Y}{i:Ids}{c:Cf}{ep:Int}{m:MS}(h:xz dn w i c ep m)(d:m.TL=[]):
  Calls prog 19 #[.pointer (E ⟨i.x,0,I⟩)] w fun e w'=>e=.returned (.slice I 0 0)/\Z w.1.size w w':=by
 have j:=h.lt
 obtain⟨-,-,-,-,-,-,-,-,-,-,g⟩:=h.cells
 have b:=zd (zjM (d▸h.board))
 clear h d
 go_enter func19,ntmps19
 go_wp2_with fail
 refine(ud b).mono ?_
 rintro e k ⟨rfl,a⟩
 have f:=zd a
 clear a b
 go_wp2_with fail
 go_ret
 exact⟨rfl,ud f⟩
theorem z11{w:Y}{g:Nat}{a0 b a2 a3 a4 a5 c d e a9 a:Value}{t:TypeId}{f:Nat×Nat}(h:w.1[g]?=E (.cells #[a0,b,a2,a3,a4,a5,c,d,e,a9,a] t f)):w.cell? ⟨g,0,I⟩=E a0/\w.cell? ⟨g,1,I⟩=E b/\w.cell? ⟨g,2,I⟩=E a2/\w.cell? ⟨g,3,I⟩=E a3/\w.cell? ⟨g,4,I⟩=E a4/\w.cell? ⟨g,5,I⟩=E a5/\w.cell? ⟨g,6,I⟩=E c/\w.cell? ⟨g,7,I⟩=E d/\w.cell? ⟨g,8,I⟩=E e/\w.cell? ⟨g,9,I⟩=E a9/\w.cell? ⟨g,10,I⟩=E a:=by
 refine⟨?_,?_,?_,?_,?_,?_,?_,?_,?_,?_,?_⟩<;>rw[xD h]<;>rfl
theorem zjI{X V:Y}(h:Z X.drew.1.size X.drew V):Z X.1.size X V:=⟨h.os,h.tape,h.output,h.size,h.block⟩
abbrev zdc:Value:=.agg #[J O 0,J O 0,J O 0,J O 0,J O 0,J O 0,J O 0,J O 0,J O 0,J O 0,J O 0]
def xa(u q:Int):Bool:=decide (3*q<4*u)
theorem zjT(v:Value)(w:Y):(Instr.typeAssert (.iface 195 v) 99 195 true).run prog w=.ok (.tuple #[v,.bool true]) w:=by kernel_rfl
theorem zjS(v:Value)(w:Y):(Instr.typeAssert (.iface 197 v) 99 195 true).run prog w=.ok (.tuple #[.agg #[J O 0,J O 0,J O 0],.bool false]) w:=by kernel_rfl
theorem zjR(v:Value)(w:Y):(Instr.typeAssert (.iface 197 v) 99 197 true).run prog w=.ok (.tuple #[v,.bool true]) w:=by kernel_rfl
theorem QX{dn:Bool}{w:Y}{i:Ids}{c:Cf}{ep:Int}{m:MS}(h:xz dn w i c ep m)(r:c.ok)(v:0<=zp m.L/\zp m.L<=1000):
  Calls prog 45 #[.pointer (E ⟨i.x,0,I⟩)] w fun e w'=>e=.returned (.bool (xa (zp m.L) c.qu))/\Z w.1.size w w':=by
 obtain⟨a,cap,k,j⟩:=h.ts
 obtain⟨B,C,D,F,G,H,p,-,-,K,-⟩:=h.cells
 rw[k]at p
 have A:=h.lt
 obtain⟨s,t⟩:=r.qu
 have n:=fun W q=>zd (Z9 ((h.later (w':=W) q).set) (by unfold xh;omega))
 have l:=fun W=>zd (Zu c a cap W)
 obtain⟨y,z⟩:=v
 unfold xa
 generalize zp m.L=U at*
 clear h j
 go_enter func45,ntmps45
 go_wp2_with fail
 have g:Nonempty (zU w.1.size w):=zU.some _ _
 have f:=fun(u:zU w.1.size w) b o h=>u.cell b o h
 refine zv w.1.size (by kernel_rfl) (by kernel_rfl) ?_
 repeat(go_big_quiet_step (first
  |(go_at_call 43;exact Calls.later (Q _) (ud (n _ (Subtype.property _))))
  |(go_at_call 63;exact Calls.later (Q _) (ud (l _)))))
 refine wpQuiet_nil ?_
 rintro⟨M,d⟩
 clear f g
 dsimp only
 go_wp2_with fail
 go_ret
 exact⟨rfl,d⟩
theorem zaY{w:Y}{base g size:Nat}{e:TypeId}{cs:Array Value}(h:w.1[g]?=E (.cells cs e (0,0)))(b:cs.size=0)(a:base<=g):w.ownsRow base e size (.slice (E ⟨g,0,I⟩) 0 0) 0 []:=
 ⟨by simp,.inr ⟨g,0,cs,rfl,a,h,⟨Q _,by simp[maxLen],by simp[b],by simp⟩⟩⟩
theorem zci(c:Cf)(D:c.ok)(a:Option Addr)(cap:Nat)(w:Y)(h:TS w a c.n c.F c.W c.K):
  Calls prog 129 #[.slice a c.n cap] w fun e w'=>∃g d,e=.returned (.slice (E ⟨g,0,I⟩) c.n d)/\w'.ownsRow w.1.size 80 3 (.slice (E ⟨g,0,I⟩) c.n d) c.n (jn c.n c.F c.W c.K)/\Z w.1.size w w':=by
 have R:=D.n1
 have S:=D.n4
 have B:=zdZ h
 obtain⟨ad,t,r⟩:=B (by rw[xV];omega)
 subst t
 have f:∀o,Z w.1.size w (w.alloc o):=fun o=>(Below.refl _ _).alloc (Q _) _
 have hnews:∀o,∀j u,(jn c.n c.F c.W c.K)[j]?=E u->(w.alloc o).cell? (ad.add j)=E u:=fun o j u T=>by
  have C:=r j u T
  obtain⟨b,l,N,v,_⟩:=h (by omega)
  cases N
  have q:(⟨b,l,I⟩:Addr).add j=⟨b,l+j,I⟩:=by unfold Addr.add;split<;>simp_all
  rw[q]at C ⊢
  exact((f o).cell (p:=⟨b,l+j,I⟩) v).trans C
 have G:(binOp .eql 25 (.slice (E ad) c.n cap) (.slice I 0 0)).run prog w=.ok (.bool false) w:=by kernel_rfl
 have L:=zd hnews
 have x:0<c.n:=by omega
 have y:0+c.n<=maxLen:=by simp only[maxLen];omega
 have z:(0+c.n)*24<=140737488355328:=by omega
 have A:∀o,w.1.size<=(w.alloc o).1.size:=fun o=>by rw[zL];omega
 clear h B r hnews
 go_enter func129,ntmps129
 go_wp2_with(first|(at_builtin;refine xJ rfl _ _ 25 rfl w.1.size 80 _ 3 24 underlying25 Tryz.infoTierR rfl (by decide) (.slice (E ⟨w.1.size,0,I⟩) 0 0) 0 [] rfl (zaY (zm _ _) rfl (Q _)) ad c.n cap (jn c.n c.F c.W c.K) rfl (xV _ _ _ _) (ud L _) (JZ _ _ _ _) x y z (A _) ?_;intro g m U s H i M P)|go_in)
 go_ret
 refine⟨g,m,by simp,by simpa using s,?_⟩
 exact(f _).grown i (f _).size (fun k e=>by cases e;exact Q _)
theorem set7{w:Y}{g:Nat}{a b c d e f i:Value}{t:TypeId}{n:Nat×Nat}(h:w.1[g]?=E (.cells #[a,b,c,d,e,f,i] t n))(j k l m o p q:Value):(((((((w.setCell ⟨g,0,I⟩ j).setCell ⟨g,1,I⟩ k).setCell ⟨g,2,I⟩ l).setCell ⟨g,3,I⟩ m).setCell ⟨g,4,I⟩ o).setCell ⟨g,5,I⟩ p).setCell ⟨g,6,I⟩ q).1[g]?=E (.cells #[j,k,l,m,o,p,q] t n):=by
 have r:(w.setCell ⟨g,0,I⟩ j).1[g]?=E (.cells #[j,b,c,d,e,f,i] t n):=xy (i:=0) h j
 have s:((w.setCell ⟨g,0,I⟩ j).setCell ⟨g,1,I⟩ k).1[g]?=E (.cells #[j,k,c,d,e,f,i] t n):=xy (i:=1) r k
 have u:(((w.setCell ⟨g,0,I⟩ j).setCell ⟨g,1,I⟩ k).setCell ⟨g,2,I⟩ l).1[g]?=E (.cells #[j,k,l,d,e,f,i] t n):=xy (i:=2) s l
 have v:((((w.setCell ⟨g,0,I⟩ j).setCell ⟨g,1,I⟩ k).setCell ⟨g,2,I⟩ l).setCell ⟨g,3,I⟩ m).1[g]?=E (.cells #[j,k,l,m,e,f,i] t n):=xy (i:=3) u m
 have x:(((((w.setCell ⟨g,0,I⟩ j).setCell ⟨g,1,I⟩ k).setCell ⟨g,2,I⟩ l).setCell ⟨g,3,I⟩ m).setCell ⟨g,4,I⟩ o).1[g]?=E (.cells #[j,k,l,m,o,f,i] t n):=xy (i:=4) v o
 have y:((((((w.setCell ⟨g,0,I⟩ j).setCell ⟨g,1,I⟩ k).setCell ⟨g,2,I⟩ l).setCell ⟨g,3,I⟩ m).setCell ⟨g,4,I⟩ o).setCell ⟨g,5,I⟩ p).1[g]?=E (.cells #[j,k,l,m,o,p,i] t n):=xy (i:=5) x p
 have z:(((((((w.setCell ⟨g,0,I⟩ j).setCell ⟨g,1,I⟩ k).setCell ⟨g,2,I⟩ l).setCell ⟨g,3,I⟩ m).setCell ⟨g,4,I⟩ o).setCell ⟨g,5,I⟩ p).setCell ⟨g,6,I⟩ q).1[g]?=E (.cells #[j,k,l,m,o,p,q] t n):=xy (i:=6) y q
 exact z
theorem zfj(c:Cf)(L:c.ok)(a:Option Addr)(cap:Nat)(w:Y)(h:TS w a c.n c.F c.W c.K):
  Calls prog 67 #[.agg #[J O c.s,J O c.le,J O c.la,J O c.wi,J O c.ke,J O c.qu,.slice a c.n cap]] w fun e w'=>∃g l,e=.returned (.agg #[J O c.s,J O c.le,J O c.la,J O c.wi,J O c.ke,J O c.qu,.slice (E ⟨g,0,I⟩) c.n l])/\w'.ownsRow w.1.size 80 3 (.slice (E ⟨g,0,I⟩) c.n l) c.n (jn c.n c.F c.W c.K)/\Z w.1.size w w':=by
 obtain⟨D,M,p,N⟩:=box2 w (.cells #[J O c.s,J O c.le,J O c.la,J O c.wi,J O c.ke,J O c.qu,.slice a c.n cap] 27) (.cells #[J O 0,J O 0,J O 0,J O 0,J O 0,J O 0,.slice I 0 0] 89)
 have R:=zd (zci c L a cap _ (h.below p))
 obtain⟨-,-,-,-,-,-,x6,-⟩:=zc D
 clear h
 go_enter func67,ntmps67
 have S:=zd D
 have T:=zd M
 have o:=zd p
 have G:=zd N
 clear D M p N
 go_wp2_with fail
 generalize((w.alloc (.cells #[J O c.s,J O c.le,J O c.la,J O c.wi,J O c.ke,J O c.qu,.slice a c.n cap] 27)).alloc (.cells #[J O 0,J O 0,J O 0,J O 0,J O 0,J O 0,.slice I 0 0] 89))=X at*
 refine(ud R).mono ?_
 rintro e z ⟨g,b,rfl,m,d⟩
 have t:w.1.size<X.1.size:=by rw[ud G];omega
 have C:w.1.size+1<X.1.size:=by rw[ud G];omega
 have u:=(d.block w.1.size t).trans (ud S)
 have x:=(d.block (w.1.size+1) C).trans (ud T)
 obtain⟨z0,z1,z2,z3,z4,z5,z6,-⟩:=zc u
 have zf:=fun j=>zE u j
 obtain⟨r0,r1,r2,r3,r4,r5,r6,-⟩:=zc x
 have rf:=fun j=>zE x j
 have E0:=zd u
 have P:=zd x
 have f:=zd m
 have A:=zd d
 clear u x m d
 go_wp2_with fail
 have B:=zF (w:=z) (g:=w.1.size) (i:=6) (k:=w.1.size+1) (v:=.slice (E ⟨g,0,I⟩) c.n b) (by omega)
 have V:=set7 (B.trans (ud P)) (J O c.s) (J O c.le) (J O c.la) (J O c.wi) (J O c.ke) (J O c.qu) (.slice (E ⟨g,0,I⟩) c.n b)
 have r:Z X.1.size X z:=ud A
 have q:zo (fun k=>k=w.1.size\/k=w.1.size+1) z ((((((((z.setCell ⟨w.1.size,6,I⟩ (.slice (E ⟨g,0,I⟩) c.n b)).setCell ⟨w.1.size+1,0,I⟩ (J O c.s)).setCell ⟨w.1.size+1,1,I⟩ (J O c.le)).setCell ⟨w.1.size+1,2,I⟩ (J O c.la)).setCell ⟨w.1.size+1,3,I⟩ (J O c.wi)).setCell ⟨w.1.size+1,4,I⟩ (J O c.ke)).setCell ⟨w.1.size+1,5,I⟩ (J O c.qu)).setCell ⟨w.1.size+1,6,I⟩ (.slice (E ⟨g,0,I⟩) c.n b)):=
  zi (zi (zi (zi (zi (zi (zi (zi (zo.refl _ _) (.inl rfl)) (.inr rfl)) (.inr rfl)) (.inr rfl)) (.inr rfl)) (.inr rfl)) (.inr rfl)) (.inr rfl)
 refine bodyPost_ret (v:=.agg #[J O c.s,J O c.le,J O c.la,J O c.wi,J O c.ke,J O c.qu,.slice (E ⟨g,0,I⟩) c.n b]) (results_cell_row results67 _ _ (w.1.size+1) _ _ _ _ rfl V underlying89 rfl (by kernel_rfl)) rfl ?_
 refine⟨g,b,rfl,?_,(ud o).trans ((r.mono (ud o).size).trans (q.below (Nat.le_trans (ud o).size r.size) (fun k y=>by rcases y with rfl|rfl<;>omega)))⟩
 refine kj (zk (ud f) q (fun k y=>?_)) (Nat.le_of_lt t)
 have:X.1.size<=k:=by
  have hg:k=g:=by simp[Value.ownBlock]at y;exact y.symm
  obtain⟨g2,H,hv,U,_⟩:=(ud f).form (by have:=L.n1;omega)
  cases hv;omega
 omega
theorem zfL(c:Cf)(a:Option Addr)(cap:Nat)(w:Y):
  Calls prog 68 #[.agg #[J O c.s,J O c.le,J O c.la,J O c.wi,J O c.ke,J O c.qu,.slice a c.n cap]] w fun e w'=>∃s lb gb,e=.returned (.pointer (E ⟨s,0,I⟩))/\w.1.size<=s/\w.1.size<=lb/\w.1.size<=gb/\gb≠lb/\w'.1[s]?=E (.cells #[J O c.s,J O c.le,J O c.la,J O c.wi,J O c.ke,J O c.qu,.slice a c.n cap,.map (E lb),.map (E gb)] 155 (0,0))/\qQ w' lb []/\zV kR w' gb []/\Z w.1.size w w':=by
 have m1:∀W:Y,(Instr.makeMap 152 I).run prog W=.ok (.map (E W.1.size)) (W.alloc (.map #[] 0)):=fun W=>by kernel_rfl
 have m2:∀W:Y,(Instr.makeMap 153 I).run prog W=.ok (.map (E W.1.size)) (W.alloc (.map #[] 0)):=fun W=>by kernel_rfl
 go_enter func68,ntmps68
 go_wp2_with fail
 go_ret
 obtain⟨i,f,g,b,h⟩:=zcf w (.cells #[J O c.s,J O c.le,J O c.la,J O c.wi,J O c.ke,J O c.qu,.slice a c.n cap] 89) (.map #[] 0) (.map #[] 0)
 generalize(((w.alloc (.cells #[J O c.s,J O c.le,J O c.la,J O c.wi,J O c.ke,J O c.qu,.slice a c.n cap] 89)).alloc (.map #[] 0)).alloc (.map #[] 0))=X at*
 have d:=zm X (.cells #[J O c.s,J O c.le,J O c.la,J O c.wi,J O c.ke,J O c.qu,.slice a c.n cap,.map (E (w.1.size+1)),.map (E (w.1.size+2))] 155)
 rw[h]at d
 refine⟨w.1.size+3,w.1.size+1,w.1.size+2,rfl,by omega,by omega,by omega,by omega,d,⟨#[],0,(Below.heap_alloc _ _ _ (by omega)).trans f,⟨rfl,by simp,by simp,by simp,by simp[zr],by simp⟩⟩,⟨#[],0,(Below.heap_alloc _ _ _ (by omega)).trans g,⟨rfl,by simp,by simp,by simp,by simp[zy],by simp⟩⟩,b.alloc b.size _⟩
theorem zaJ(d:Nat)(w:Y):Calls prog 70 #[.pointer (E ⟨d,0,I⟩)] w fun e w'=>∃j,e=.returned (.pointer (E ⟨j,0,I⟩))/\w.1.size<=j/\w'.1[j]?=E (.cells #[.pointer (E ⟨d,0,I⟩),J O 0] 216 (0,0))/\Z w.1.size w w':=by
 go_enter func70,ntmps70
 go_wp2_with fail
 go_ret
 exact⟨_,rfl,Q _,zm _ _,(Below.refl _ _).alloc (Q _) _⟩
end Go.Proofs.YtndhpgciopcncaaGreatDoor
