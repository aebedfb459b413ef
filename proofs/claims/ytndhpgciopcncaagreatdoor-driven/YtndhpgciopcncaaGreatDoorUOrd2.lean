import Derived.Test.YtndhpgciopcncaaGreatDoorUBrd2
import Derived.Test.YtndhpgciopcncaaGreatDoorUJn2
import Derived.Deep.RegionHeld3
open Option renaming some → I
open Option renaming none → J
open Go renaming World → K
open Go renaming Value → O
open Go.RowKit renaming Below → E
open Go.Value (int)
open Go.IntKind (i64)
set_option linter.unusedVariables false
set_option maxRecDepth 20000
set_option maxHeartbeats 1000000
open Go.Proofs.Tryz
namespace Go.Proofs.YtndhpgciopcncaaGreatDoor
open Go.ChangeMaps (setBlock)
open Go.RowKit Go.Maps Go.Shelf
theorem below_more{a w:K}(h:E a.1.size a w)(o:Obj):E a.1.size a (w.alloc o):=h.alloc h.size o
theorem zcA(W:K)(z:Obj):(W.alloc z).1[W.1.size]?=I z:=zm W z
theorem VT(W:K)(z a:Obj):((W.alloc z).alloc a).1[W.1.size]?=I z:=(Below.heap_alloc _ _ _ (by simp)).trans (zm _ _)
theorem VU(W:K)(z a:Obj):((W.alloc z).alloc a).1[W.1.size+1]?=I a:=by have:=zm (W.alloc z) a;rwa[zL]at this
abbrev yO(w:K)(g:Nat)(a b c d:O):K:=(((w.setCell ⟨g,0,J⟩ a).setCell ⟨g,1,J⟩ b).setCell ⟨g,2,J⟩ c).setCell ⟨g,3,J⟩ d
theorem YJ{w:K}{g:Nat}{p q r s:O}{t:TypeId}{e:Nat×Nat}(h:w.1[g]?=I (.cells #[p,q,r,s] t e))(a b c d:O):(yO w g a b c d).1[g]?=I (.cells #[a,b,c,d] t e):=xy (i:=3) (xy (i:=2) (xy (i:=1) (xy (i:=0) h a) b) c) d
theorem YK{w:K}{g k:Nat}(h:k≠g)(a b c d:O):(yO w g a b c d).1[k]?=w.1[k]?:=by
 unfold yO
 rw[Below.heap_setCell _ ⟨g,3,J⟩ _ _ h,Below.heap_setCell _ ⟨g,2,J⟩ _ _ h,Below.heap_setCell _ ⟨g,1,J⟩ _ _ h,Below.heap_setCell _ ⟨g,0,J⟩ _ _ h]
theorem below4s{B:Nat}{w:K}{g:Nat}(h:B<=g)(a b c d:O):E B w (yO w g a b c d):=((((Below.refl _ _).setCell (p:=⟨g,0,J⟩) h _).setCell (p:=⟨g,1,J⟩) h _).setCell (p:=⟨g,2,J⟩) h _).setCell (p:=⟨g,3,J⟩) h _
theorem zae(w:K)(g:Nat)(a b c d:O):(yO w g a b c d).1.size=w.1.size:=by simp[yO]
theorem Yv{w:K}{g:Nat}{p q r s:O}{t:TypeId}{e:Nat×Nat}(h:w.1[g]?=I (.cells #[p,q,r,s] t e))(a b c d:O)(o:Obj):((yO w g a b c d).alloc o).1[g]?=I (.cells #[a,b,c,d] t e):=
 (Below.heap_alloc _ _ _ (by rw[zae];exact za h)).trans (YJ h a b c d)
theorem zhz(w:K)(g:Nat)(a b c d:O)(o:Obj):((yO w g a b c d).alloc o).1[w.1.size]?=I o:=by have:=zm (yO w g a b c d) o;rwa[zae]at this
theorem zhA{w:K}{g:Nat}(h:w.1.size≠g)(a b c d:O)(o:Obj):(yO (w.alloc o) g a b c d).1[w.1.size]?=I o:=(YK h a b c d).trans (zm _ _)
theorem Yw{w:K}{g:Nat}{p q r s:O}{t:TypeId}{e:Nat×Nat}(h:w.1[g]?=I (.cells #[p,q,r,s] t e))(a b c d:O)(o:Obj):(yO (w.alloc o) g a b c d).1[g]?=I (.cells #[a,b,c,d] t e):=
 YJ ((Below.heap_alloc _ _ _ (za h)).trans h) a b c d
theorem YP{w:K}{g k:Nat}{p q r s:O}{t:TypeId}{j:Nat×Nat}(hn:g≠k)(h:w.1[g]?=I (.cells #[p,q,r,s] t j))(a b c d e b' f i:O):(yO (yO w g a b c d) k e b' f i).1[g]?=I (.cells #[a,b,c,d] t j):=(YK hn e b' f i).trans (YJ h a b c d)
theorem YQ{w:K}{g k:Nat}{p q r s:O}{t:TypeId}{j:Nat×Nat}(hn:k≠g)(h:w.1[k]?=I (.cells #[p,q,r,s] t j))(a b c d e b' f i:O):(yO (yO w g a b c d) k e b' f i).1[k]?=I (.cells #[e,b',f,i] t j):=YJ ((YK hn a b c d).trans h) e b' f i
theorem bel_aa{a:Nat}{w V:K}(h:E a w V)(c:a<=V.1.size)(o b:Obj):E a w ((V.alloc o).alloc b):=(h.alloc c o).alloc (by rw[zL];omega) b
theorem bel_sa{e g:Nat}{w V:K}(h:E e w V)(f:e<=V.1.size)(i:e<=g)(a b c d:O)(o:Obj):E e w ((yO V g a b c d).alloc o):=(h.trans (below4s i a b c d)).alloc (by rw[zae];exact f) o
theorem bel_as{e g:Nat}{w V:K}(h:E e w V)(f:e<=V.1.size)(i:e<=g)(a b c d:O)(o:Obj):E e w (yO (V.alloc o) g a b c d):=(h.alloc f o).trans (below4s i a b c d)
theorem bel_ss{e g k:Nat}{w V:K}(h:E e w V)(l:e<=g)(m:e<=k)(a b c d f b' i j:O):E e w (yO (yO V g a b c d) k f b' i j):=(h.trans (below4s l a b c d)).trans (below4s m f b' i j)
def vH(x y:Tsk):Int:=orL [kz x.kd y.kd,kz x.s.t y.s.t,kz x.s.sr y.s.sr,kz x.s.wa y.s.wa]
theorem zap(x y:Tsk):orL [kz x.kd y.kd,JR x.s y.s]=vH x y:=by
 unfold vH JR
 simp only[orL]
 repeat' split
 all_goals omega
def yJ(QL:List (Tok×Lse))(now:Int)(x:Tsk):Bool:=decide (x.rest<=now)&&!kh QL x.key
theorem zdk{w:K}{b:Nat}{c:Cf}{tv:O}{ep num:Int}{tb qb:Nat}{TL:List (Jk×Tsk)}{QL:List (Tok×Lse)}(h:zA w b c tv ep num tb qb TL QL)(x:Tsk)(now:Int)(p:QL.length<=100000)
  (i g:Nat) (u:i<w.1.size) (v:g<w.1.size) (q:w.cell? ⟨i,0,J⟩=I (int i64 now)) (r:w.cell? ⟨g,0,J⟩=I (.pointer (I ⟨b,0,J⟩))):
  Calls prog 98 #[.agg #[.iface x.jt (.agg #[int i64 x.s.t,int i64 x.s.sr,int i64 x.s.wa]),int i64 x.se,int i64 x.ti,int i64 x.rest],.pointer (I ⟨i,0,J⟩),.pointer (I ⟨g,0,J⟩)] w fun e w'=>e=.returned (.bool (yJ QL now x))/\E w.1.size w w':=by
 have n:=h.lt
 have d:E w.1.size w (w.alloc (.cells #[.iface x.jt (.agg #[int i64 x.s.t,int i64 x.s.sr,int i64 x.s.wa]),int i64 x.se,int i64 x.ti,int i64 x.rest] 177)):=(Below.refl _ _).alloc (Nat.le_refl _) _
 have l:=zd (zaN (h.later d) x p)
 have a:=zd d
 unfold yJ
 obtain⟨m,f⟩:∃m,kh QL x.key=m:=⟨_,rfl⟩
 rw[f]at l ⊢
 clear h f
 by_cases k:x.rest<=now
 ·rw[show(decide (x.rest<=now)&&!m)=!m by simp[k]]
  go_enter func98,ntmps98
  go_wp2_with fail
  refine(ud l).mono ?_
  rintro e y ⟨rfl,j⟩
  go_wp2_with fail
  go_ret
  exact⟨rfl,(ud a).trans (j.mono (ud a).size)⟩
 ·rw[show(decide (x.rest<=now)&&!m)=false by simp[k]]
  have o:decide (x.rest<=now)=false:=by simpa using k
  go_enter func98,ntmps98
  go_wp2_with fail
  go_ret
  exact⟨rfl,ud a⟩
theorem KV:∀args w,(callFunc 98 args).run prog w=.ok (.enter 98 args) w:=enters_of func98 (by kernel_rfl) rfl
theorem zif(P:Program)(w:K)(a:Addr)(m:Mode)(fn:Fn)(first b:Array O):(store a (.func fn first b) m).run P w=stored P w a (.func fn first b) m:=_root_.Go.run_store P w a _ m rfl
attribute [local go_sem] zif
structure zbL(W:K)(b:Nat)(now:Int)(tight:Bool)(q:Nat):Prop where
 b0:W.1[q]?=I (.cells #[.pointer (I ⟨b,0,J⟩)] 91 (0,0))
 b1:W.1[q+1]?=I (.cells #[int i64 now] 3 (0,0))
 b2:W.1[q+2]?=I (.cells #[.bool tight] 4 (0,0))
 b3:W.1[q+3]?=I (.cells #[.func (.func 160) #[] #[.pointer (I ⟨q,0,J⟩),.pointer (I ⟨q+1,0,J⟩)]] 244 (0,0))
theorem zbL.later{W d:K}{b:Nat}{now:Int}{a:Bool}{q:Nat}(h:zbL W b now a q)(c:E W.1.size W d):zbL d b now a q:=
 ⟨(c.block _ (za h.b0)).trans h.b0,(c.block _ (za h.b1)).trans h.b1,(c.block _ (za h.b2)).trans h.b2,(c.block _ (za h.b3)).trans h.b3⟩
theorem zdh(b:Nat)(now:Int)(a:Bool)(w:K):
  Calls prog 101 #[.pointer (I ⟨b,0,J⟩),int i64 now,.bool a] w fun e w'=>e=.returned (.func (.func 161) #[] #[.pointer (I ⟨w.1.size+2,0,J⟩),.pointer (I ⟨w.1.size+3,0,J⟩)])/\zbL w' b now a w.1.size/\E w.1.size w w'/\w'.1.size=w.1.size+4:=by
 obtain⟨k,l,m,g,f⟩:=zgc w (.cells #[.pointer (I ⟨b,0,J⟩)] 91) (.cells #[int i64 now] 3) (.cells #[.bool a] 4)
 have h:=zm (((w.alloc (.cells #[.pointer (I ⟨b,0,J⟩)] 91)).alloc (.cells #[int i64 now] 3)).alloc (.cells #[.bool a] 4)) (.cells #[.func (.func 160) #[] #[.pointer (I ⟨w.1.size,0,J⟩),.pointer (I ⟨w.1.size+1,0,J⟩)]] 244)
 have d:=g.alloc (show w.1.size<=_ by rw[f];omega) (.cells #[.func (.func 160) #[] #[.pointer (I ⟨w.1.size,0,J⟩),.pointer (I ⟨w.1.size+1,0,J⟩)]] 244)
 have c:=zL (((w.alloc (.cells #[.pointer (I ⟨b,0,J⟩)] 91)).alloc (.cells #[int i64 now] 3)).alloc (.cells #[.bool a] 4)) (.cells #[.func (.func 160) #[] #[.pointer (I ⟨w.1.size,0,J⟩),.pointer (I ⟨w.1.size+1,0,J⟩)]] 244)
 rw[f]at h c
 have z0:=(Below.heap_alloc (((w.alloc (.cells #[.pointer (I ⟨b,0,J⟩)] 91)).alloc (.cells #[int i64 now] 3)).alloc (.cells #[.bool a] 4)) (.cells #[.func (.func 160) #[] #[.pointer (I ⟨w.1.size,0,J⟩),.pointer (I ⟨w.1.size+1,0,J⟩)]] 244) w.1.size (by rw[f];omega)).trans k
 have i:=(Below.heap_alloc (((w.alloc (.cells #[.pointer (I ⟨b,0,J⟩)] 91)).alloc (.cells #[int i64 now] 3)).alloc (.cells #[.bool a] 4)) (.cells #[.func (.func 160) #[] #[.pointer (I ⟨w.1.size,0,J⟩),.pointer (I ⟨w.1.size+1,0,J⟩)]] 244) (w.1.size+1) (by rw[f];omega)).trans l
 have j:=(Below.heap_alloc (((w.alloc (.cells #[.pointer (I ⟨b,0,J⟩)] 91)).alloc (.cells #[int i64 now] 3)).alloc (.cells #[.bool a] 4)) (.cells #[.func (.func 160) #[] #[.pointer (I ⟨w.1.size,0,J⟩),.pointer (I ⟨w.1.size+1,0,J⟩)]] 244) (w.1.size+2) (by rw[f];omega)).trans m
 have n:=zd (And.intro z0 (And.intro i (And.intro j (And.intro h (And.intro d c)))))
 clear k l m g f h d c z0 i j
 go_enter func101,ntmps101
 go_wp2_with fail
 go_ret
 obtain⟨z0,i,j,h,d,c⟩:=ud n
 exact⟨rfl,⟨z0,i,j,h⟩,d,c⟩
theorem KQ:∀args w,(callFunc 161 args).run prog w=.ok (.enter 161 args) w:=enters_of func161 (by kernel_rfl) rfl
end Go.Proofs.YtndhpgciopcncaaGreatDoor
