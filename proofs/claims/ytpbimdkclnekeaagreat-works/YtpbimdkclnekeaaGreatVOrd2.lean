import Derived.Test.YtpbimdkclnekeaaGreatVOrd1
open Option renaming some → I
open Option renaming none → J
open Go renaming World → K
open Go renaming Value → O
open Go.RowKit renaming Below → E
open Go.Value (int)
open Go.IntKind (i64)
set_option linter.unusedVariables false
set_option maxHeartbeats 1000000
open Go.Proofs.Tryz
namespace Go.Proofs.YtpbimdkclnekeaaGreat
open Go.ChangeMaps (setBlock)
open Go.RowKit Go.Maps Go.Shelf
theorem below_more{a w:K}(h:E a.1.size a w)(o:Obj):E a.1.size a (w.alloc o):=h.alloc h.size o
theorem zeS(W:K)(z:Obj):(W.alloc z).1[W.1.size]?=I z:=zo W z
theorem zaO(W:K)(z a:Obj):((W.alloc z).alloc a).1[W.1.size]?=I z:=(Below.heap_alloc _ _ _ (by simp)).trans (zo _ _)
theorem zaP(W:K)(z a:Obj):((W.alloc z).alloc a).1[W.1.size+1]?=I a:=by have:=zo (W.alloc z) a;rwa[zF]at this
abbrev kI(w:K)(g:Nat)(a b c d:O):K:=(((w.setCell ⟨g,0,J⟩ a).setCell ⟨g,1,J⟩ b).setCell ⟨g,2,J⟩ c).setCell ⟨g,3,J⟩ d
theorem VJ{w:K}{g:Nat}{p q r s:O}{t:TypeId}{e:Nat×Nat}(h:w.1[g]?=I (.cells #[p,q,r,s] t e))(a b c d:O):(kI w g a b c d).1[g]?=I (.cells #[a,b,c,d] t e):=xm (i:=3) (xm (i:=2) (xm (i:=1) (xm (i:=0) h a) b) c) d
theorem VK{w:K}{g k:Nat}(h:k≠g)(a b c d:O):(kI w g a b c d).1[k]?=w.1[k]?:=by
 unfold kI
 rw[Below.heap_setCell _ ⟨g,3,J⟩ _ _ h,Below.heap_setCell _ ⟨g,2,J⟩ _ _ h,Below.heap_setCell _ ⟨g,1,J⟩ _ _ h,Below.heap_setCell _ ⟨g,0,J⟩ _ _ h]
theorem below4s{B:Nat}{w:K}{g:Nat}(h:B<=g)(a b c d:O):E B w (kI w g a b c d):=((((Below.refl _ _).setCell (p:=⟨g,0,J⟩) h _).setCell (p:=⟨g,1,J⟩) h _).setCell (p:=⟨g,2,J⟩) h _).setCell (p:=⟨g,3,J⟩) h _
theorem zcq(w:K)(g:Nat)(a b c d:O):(kI w g a b c d).1.size=w.1.size:=by simp[kI]
theorem Vq{w:K}{g:Nat}{p q r s:O}{t:TypeId}{e:Nat×Nat}(h:w.1[g]?=I (.cells #[p,q,r,s] t e))(a b c d:O)(o:Obj):((kI w g a b c d).alloc o).1[g]?=I (.cells #[a,b,c,d] t e):=
 (Below.heap_alloc _ _ _ (by rw[zcq];exact zd h)).trans (VJ h a b c d)
theorem zjz(w:K)(g:Nat)(a b c d:O)(o:Obj):((kI w g a b c d).alloc o).1[w.1.size]?=I o:=by have:=zo (kI w g a b c d) o;rwa[zcq]at this
theorem zjA{w:K}{g:Nat}(h:w.1.size≠g)(a b c d:O)(o:Obj):(kI (w.alloc o) g a b c d).1[w.1.size]?=I o:=(VK h a b c d).trans (zo _ _)
theorem Vr{w:K}{g:Nat}{p q r s:O}{t:TypeId}{e:Nat×Nat}(h:w.1[g]?=I (.cells #[p,q,r,s] t e))(a b c d:O)(o:Obj):(kI (w.alloc o) g a b c d).1[g]?=I (.cells #[a,b,c,d] t e):=
 VJ ((Below.heap_alloc _ _ _ (zd h)).trans h) a b c d
theorem VS{w:K}{g k:Nat}{p q r s:O}{t:TypeId}{j:Nat×Nat}(hn:g≠k)(h:w.1[g]?=I (.cells #[p,q,r,s] t j))(a b c d a' e f i:O):(kI (kI w g a b c d) k a' e f i).1[g]?=I (.cells #[a,b,c,d] t j):=(VK hn a' e f i).trans (VJ h a b c d)
theorem VT{w:K}{g k:Nat}{p q r s:O}{t:TypeId}{j:Nat×Nat}(hn:k≠g)(h:w.1[k]?=I (.cells #[p,q,r,s] t j))(a b c d a' e f i:O):(kI (kI w g a b c d) k a' e f i).1[k]?=I (.cells #[a',e,f,i] t j):=VJ ((VK hn a b c d).trans h) a' e f i
theorem bel_aa{a:Nat}{w V:K}(h:E a w V)(c:a<=V.1.size)(o b:Obj):E a w ((V.alloc o).alloc b):=(h.alloc c o).alloc (by rw[zF];omega) b
theorem bel_sa{e g:Nat}{w V:K}(h:E e w V)(f:e<=V.1.size)(i:e<=g)(a b c d:O)(o:Obj):E e w ((kI V g a b c d).alloc o):=(h.trans (below4s i a b c d)).alloc (by rw[zcq];exact f) o
theorem bel_as{e g:Nat}{w V:K}(h:E e w V)(f:e<=V.1.size)(i:e<=g)(a b c d:O)(o:Obj):E e w (kI (V.alloc o) g a b c d):=(h.alloc f o).trans (below4s i a b c d)
theorem bel_ss{e g k:Nat}{w V:K}(h:E e w V)(l:e<=g)(m:e<=k)(a b c d a' f i j:O):E e w (kI (kI V g a b c d) k a' f i j):=(h.trans (below4s l a b c d)).trans (below4s m a' f i j)
def qY(x y:Tsk):Int:=orL [vG x.kd y.kd,vG x.s.t y.s.t,vG x.s.se y.s.se,vG x.s.we y.s.we]
def kw(QL:List (Tok×Lse))(now:Int)(x:Tsk):Bool:=decide (x.rest<=now)&&!kq QL x.key
theorem zfP{w:K}{b:Nat}{c:Cf}{tv:O}{ep num:Int}{tb qb:Nat}{TL:List (Jk×Tsk)}{QL:List (Tok×Lse)}(h:zM w b c tv ep num tb qb TL QL)(x:Tsk)(now:Int)(p:QL.length<=100000)
  (i g:Nat) (u:i<w.1.size) (v:g<w.1.size) (q:w.cell? ⟨i,0,J⟩=I (int i64 now)) (r:w.cell? ⟨g,0,J⟩=I (.pointer (I ⟨b,0,J⟩))):
  Calls prog 83 #[.agg #[.iface x.jt (.agg #[int i64 x.s.t,int i64 x.s.se,int i64 x.s.we]),int i64 x.si,int i64 x.tc,int i64 x.rest],.pointer (I ⟨i,0,J⟩),.pointer (I ⟨g,0,J⟩)] w fun e w'=>e=.returned (.bool (kw QL now x))/\E w.1.size w w':=by
 have n:=h.lt
 have d:E w.1.size w (w.alloc (.cells #[.iface x.jt (.agg #[int i64 x.s.t,int i64 x.s.se,int i64 x.s.we]),int i64 x.si,int i64 x.tc,int i64 x.rest] 162)):=(Below.refl _ _).alloc (Nat.le_refl _) _
 have l:=ze (zdc (h.later d) x p)
 have a:=ze d
 unfold kw
 obtain⟨m,f⟩:∃m,kq QL x.key=m:=⟨_,rfl⟩
 rw[f]at l ⊢
 clear h f
 by_cases k:x.rest<=now
 ·rw[show(decide (x.rest<=now)&&!m)=!m by simp[k]]
  go_enter func83,ntmps83
  go_wp2_with fail
  refine(ud l).mono ?_
  rintro e y ⟨rfl,j⟩
  go_wp2_with fail
  go_ret
  exact⟨rfl,(ud a).trans (j.mono (ud a).size)⟩
 ·rw[show(decide (x.rest<=now)&&!m)=false by simp[k]]
  have o:decide (x.rest<=now)=false:=by simpa using k
  go_enter func83,ntmps83
  go_wp2_with fail
  go_ret
  exact⟨rfl,ud a⟩
theorem JJ:∀args w,(callFunc 83 args).run prog w=.ok (.enter 83 args) w:=enters_of func83 (by kernel_rfl) rfl
theorem zjV(P:Program)(w:K)(a:Addr)(m:Mode)(fn:Fn)(first b:Array O):(store a (.func fn first b) m).run P w=stored P w a (.func fn first b) m:=_root_.Go.run_store P w a _ m rfl
attribute [local go_sem] zjV
structure zei(W:K)(b:Nat)(now:Int)(tight:Bool)(q:Nat):Prop where
 b0:W.1[q]?=I (.cells #[.pointer (I ⟨b,0,J⟩)] 82 (0,0))
 b1:W.1[q+1]?=I (.cells #[int i64 now] 3 (0,0))
 b2:W.1[q+2]?=I (.cells #[.bool tight] 4 (0,0))
 b3:W.1[q+3]?=I (.cells #[.func (.func 135) #[] #[.pointer (I ⟨q,0,J⟩),.pointer (I ⟨q+1,0,J⟩)]] 213 (0,0))
theorem zei.later{W d:K}{b:Nat}{now:Int}{a:Bool}{q:Nat}(h:zei W b now a q)(c:E W.1.size W d):zei d b now a q:=
 ⟨(c.block _ (zd h.b0)).trans h.b0,(c.block _ (zd h.b1)).trans h.b1,(c.block _ (zd h.b2)).trans h.b2,(c.block _ (zd h.b3)).trans h.b3⟩
theorem zfI(b:Nat)(now:Int)(a:Bool)(w:K):
  Calls prog 86 #[.pointer (I ⟨b,0,J⟩),int i64 now,.bool a] w fun e w'=>e=.returned (.func (.func 136) #[] #[.pointer (I ⟨w.1.size+2,0,J⟩),.pointer (I ⟨w.1.size+3,0,J⟩)])/\zei w' b now a w.1.size/\E w.1.size w w'/\w'.1.size=w.1.size+4:=by
 obtain⟨l,m,n,g,f⟩:=zey w (.cells #[.pointer (I ⟨b,0,J⟩)] 82) (.cells #[int i64 now] 3) (.cells #[.bool a] 4)
 have h:=zo (((w.alloc (.cells #[.pointer (I ⟨b,0,J⟩)] 82)).alloc (.cells #[int i64 now] 3)).alloc (.cells #[.bool a] 4)) (.cells #[.func (.func 135) #[] #[.pointer (I ⟨w.1.size,0,J⟩),.pointer (I ⟨w.1.size+1,0,J⟩)]] 213)
 have d:=g.alloc (show w.1.size<=_ by rw[f];omega) (.cells #[.func (.func 135) #[] #[.pointer (I ⟨w.1.size,0,J⟩),.pointer (I ⟨w.1.size+1,0,J⟩)]] 213)
 have c:=zF (((w.alloc (.cells #[.pointer (I ⟨b,0,J⟩)] 82)).alloc (.cells #[int i64 now] 3)).alloc (.cells #[.bool a] 4)) (.cells #[.func (.func 135) #[] #[.pointer (I ⟨w.1.size,0,J⟩),.pointer (I ⟨w.1.size+1,0,J⟩)]] 213)
 rw[f]at h c
 have i:=(Below.heap_alloc (((w.alloc (.cells #[.pointer (I ⟨b,0,J⟩)] 82)).alloc (.cells #[int i64 now] 3)).alloc (.cells #[.bool a] 4)) (.cells #[.func (.func 135) #[] #[.pointer (I ⟨w.1.size,0,J⟩),.pointer (I ⟨w.1.size+1,0,J⟩)]] 213) w.1.size (by rw[f];omega)).trans l
 have j:=(Below.heap_alloc (((w.alloc (.cells #[.pointer (I ⟨b,0,J⟩)] 82)).alloc (.cells #[int i64 now] 3)).alloc (.cells #[.bool a] 4)) (.cells #[.func (.func 135) #[] #[.pointer (I ⟨w.1.size,0,J⟩),.pointer (I ⟨w.1.size+1,0,J⟩)]] 213) (w.1.size+1) (by rw[f];omega)).trans m
 have k:=(Below.heap_alloc (((w.alloc (.cells #[.pointer (I ⟨b,0,J⟩)] 82)).alloc (.cells #[int i64 now] 3)).alloc (.cells #[.bool a] 4)) (.cells #[.func (.func 135) #[] #[.pointer (I ⟨w.1.size,0,J⟩),.pointer (I ⟨w.1.size+1,0,J⟩)]] 213) (w.1.size+2) (by rw[f];omega)).trans n
 have o:=ze (And.intro i (And.intro j (And.intro k (And.intro h (And.intro d c)))))
 clear l m n g f h d c i j k
 go_enter func86,ntmps86
 go_wp2_with fail
 go_ret
 obtain⟨i,j,k,h,d,c⟩:=ud o
 exact⟨rfl,⟨i,j,k,h⟩,d,c⟩
theorem JE:∀args w,(callFunc 136 args).run prog w=.ok (.enter 136 args) w:=enters_of func136 (by kernel_rfl) rfl
end Go.Proofs.YtpbimdkclnekeaaGreat
