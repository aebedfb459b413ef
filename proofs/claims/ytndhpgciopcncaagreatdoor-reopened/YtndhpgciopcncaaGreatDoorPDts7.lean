import Derived.Test.YtndhpgciopcncaaGreatDoorPDts3
import Derived.Test.YtndhpgciopcncaaGreatDoorPDts0
import Derived.StillTactics
import Derived.Test.YtndhpgciopcncaaGreatDoorPRdr7
import Derived.Test.YtndhpgciopcncaaGreatDoorRows
import Derived.WalkKit
import Derived.ProofKit
import Derived.OpenShut
import Derived.ChangeOld
import Derived.Below
import Derived.SizedLaws
import Derived.Test.YtndhpgciopcncaaGreatDoorCards
import Derived.Test.YtndhpgciopcncaaGreatDoorTie
import Derived.Handed
import Derived.Handy
import Derived.Lay
import Derived.SevenTiedAt
open Nat renaming lt_of_lt_of_le → J
open Go.RowKit.Below renaming refl → E
open Go.RowKit renaming Below → Q
open Nat renaming le_refl → Y
open Option renaming some → N
open Go renaming World → S
open Nat renaming le_trans → A
set_option linter.unusedVariables false
set_option maxRecDepth 100000
set_option maxHeartbeats 16000000
open Go.Proofs.Tryz
namespace Go.Proofs.YtndhpgciopcncaaGreatDoor
open Go.RowKit Go.Maps Go.Shelf
theorem zdh{w:S}{B p:Nat}{c:Cf}{ep:Int}{m:MS}{ns:List Nm}{j:Nat}(r:J2 w B p c ep m ns j 0)(kd a b v:Int):
  Calls prog 41 #[(O p),.agg (kZz kd a b v)] w fun e w'=>e=.returned (.bool true)/\Xy w w' B p c ep m ns j (XJ ep kd a):=by
 have l:=r.size
 obtain⟨⟨K,I,H,x,z,y,C⟩,rfl,h,o,q,i,k⟩:=r
 dsimp only at*
 obtain⟨F,G,f⟩:=zS h.krow
 rw[zK]at f
 dsimp only at f
 subst f
 have d:Q w.1.size w (w.alloc (.cells (kZz kd a b v) 33)):=(E _ _).alloc (Y _) _
 have g:=h.later d
 obtain⟨-,-,-,-,-,-,-,-,n,-⟩:=g.cells
 dsimp only at n
 have D:=g.lt
 dsimp only at D
 have u:=ze g
 have s:=ze (Bel.of d l)
 have t:=ze q
 clear h g d q
 go_enter func41,ntmps41
 go_wp2_with fail
 go_ret
 exact⟨rfl,m,yL.same m ns,⟨_,0,rfl,ud u,o,ud t,i,k⟩,ud s,zeF o⟩
theorem zdf{w:S}{B p:Nat}{c:Cf}{ep:Int}{m:MS}{ns:List Nm}{j:Nat}(o:ZJ w B p c ep m ns j)(u:c.ok)(D:c.fits)(l:xg ep)(kd a b v:Int)(ha: -9223372036854775808<=a/\a<=9223372036854775807)(G:j<=4398046511104):
  Calls prog 41 #[(O p),.agg (kZz kd a b v)] w fun e w'=>e=.returned (.bool true)/\Xy w w' B p c ep m ns j (XJ ep kd a):=by
 obtain⟨s,k,W,X,Z,ho,P,T⟩:=o
 have o:J2 w B p c ep m ns j k:=⟨s,W,X,Z,ho,P,T⟩
 clear W X
 by_cases H:k=0
 ·subst H
  exact zdh o kd a b v
 ·obtain⟨z,C,t⟩:=kr a k ha (by omega)
  generalize hr:pkV a k=r at z C t
  have h:(k:Int)-1-r=(((k:Int)-1-r).toNat:Int):=by omega
  have n:((k:Int)-1-r).toNat<k:=by omega
  generalize((k:Int)-1-r).toNat=i at*
  have d:∀e w',(e=Ending.returned (.bool true)/\Xy w w' B p c ep m ns j (Jc kd ep ((i:Int)+1)))->e=Ending.returned (.bool true)/\Xy w w' B p c ep m ns j (XJ ep kd a):=fun e w' ⟨e1,m',a1,a2,a3,a4⟩=>⟨e1,m',a1,a2,a3,zgL Z H (by rw[hr];exact h) a4⟩
  cases y:zD m.QL ⟨ep,(i:Int)+1⟩with
  |none=>
   by_cases f:kd=5
   ·exact(zgn o u D l kd a b v i n r h ⟨z,C⟩ t G f y).mono d
   ·exact(zgm o u D l kd a b v i n r h ⟨z,C⟩ t G f y).mono d
  |some g=>
   obtain⟨x,V,q,F,R,U⟩:=ho.job u y
   by_cases f:kd=5
   ·exact(zdg o u D l kd a b v i n r h ⟨z,C⟩ t G f y V q U).mono d
   ·obtain⟨rl,s9,K,L,I⟩:=x
    cases rl with
    |true=>
     obtain⟨k9,M⟩:=R rfl
     exact(zdj o u D l kd a b v i n r h ⟨z,C⟩ t G f y s9 K L I V q F k9 M).mono d
    |false=>exact(zdi o u D l kd a b v i n r h ⟨z,C⟩ t G f y s9 K L I V q F).mono d
def jY(w w':S)(B p:Nat)(c:Cf)(ep:Int)(m:MS)(ns:List Nm)(j:Nat)(kd a b v:Int):Prop:=∃e m' d,yL c ep m ns e d/\yL c ep e d m' d/\ZJ w' B p c ep m' d (j+1)/\Bel B w w'/\jy c ep (zik c ep kd a b v) m m'
theorem zlU{w:S}{B p:Nat}{c:Cf}{ep:Int}{m:MS}{ns:List Nm}{j:Nat}(h:ZJ w B p c ep m ns j)(F:c.ok)(H:c.fits)(G:xg ep)(kd a b v:Int)(D: -9223372036854775808<=a/\a<=9223372036854775807)(hbb: -9223372036854775808<=b/\b<=9223372036854775807)(hv: -2147483648<=v/\v<=2147483647)(I:j<4398046511104)(d:kd=1):
  Calls prog 13 #[(O p),.agg (kZz kd a b v)] w fun e w'=>e=.returned (.bool true)/\jY w w' B p c ep m ns j kd a b v:=by
 have n:=h.size
 have k:Hid (zik c ep kd a b v=zhS c a b v):=by subst d;rfl
 have f:Q w.1.size w (w.alloc (.cells (kZz kd a b v) 33)):=(E _ _).alloc (Y _) _
 have o:=zp w (.cells (kZz kd a b v) 33)
 have r:=h.later f
 obtain⟨X,Z,o2,o3,-⟩:=zc o
 have ol:=zd o
 have i:=ze (Bel.of f n)
 have s:=ze f
 have x:=ze r
 have K:=ze h
 clear f o r h
 have M:(kd==1)=true:=by subst d;rfl
 have P:(kd==2)=false:=by subst d;rfl
 have R:(kd==3)=false:=by subst d;rfl
 have T:(kd==4)=false:=by subst d;rfl
 have U:(kd==5)=false:=by subst d;rfl
 have W:(kd==6)=false:=by subst d;rfl
 have t:=ze (zpC (ud x) F H kd a b v D hbb hv I)
 clear d
 go_enter func13,ntmps13
 go_wp2_with(first|(go_at_call 39;refine(ud t).mono ?_;rintro e V ⟨rfl,q⟩;have u:=ze q;clear q))
 go_ret
 obtain⟨m',g,y,z,C,L,l⟩:=ud u
 exact⟨rfl,m',m',g,y,yL.same m' g,z,(ud i).trans C,by rw[ud k];exact l⟩
theorem zlV{w:S}{B p:Nat}{c:Cf}{ep:Int}{m:MS}{ns:List Nm}{j:Nat}(q:ZJ w B p c ep m ns j)(T:c.ok)(X:c.fits)(U:xg ep)(kd a b v:Int)(R: -9223372036854775808<=a/\a<=9223372036854775807)(hbb: -9223372036854775808<=b/\b<=9223372036854775807)(hv: -2147483648<=v/\v<=2147483647)(hj:j<4398046511104)(d:kd=2):
  Calls prog 13 #[(O p),.agg (kZz kd a b v)] w fun e w'=>e=.returned (.bool true)/\jY w w' B p c ep m ns j kd a b v:=by
 have o:=q.size
 have l:Hid (zik c ep kd a b v=zbO (1+pkV a 1000)):=by subst d;rfl
 have f:Q w.1.size w (w.alloc (.cells (kZz kd a b v) 33)):=(E _ _).alloc (Y _) _
 have z:=zp w (.cells (kZz kd a b v) 33)
 have C:=q.later f
 obtain⟨o0,o1,o2,o3,-⟩:=zc z
 have ol:=zd z
 have g:=ze (Bel.of f o)
 have H:=ze f
 have u:=ze C
 have HS:=ze q
 clear f z C q
 have k1:(kd==1)=false:=by subst d;rfl
 have k2:(kd==2)=true:=by subst d;rfl
 have k3:(kd==3)=false:=by subst d;rfl
 have k4:(kd==4)=false:=by subst d;rfl
 have k5:(kd==5)=false:=by subst d;rfl
 have k6:(kd==6)=false:=by subst d;rfl
 have F:¬kd=1:=by omega
 obtain⟨r0,r1,x⟩:=kr a 1000 R (by omega)
 generalize G:pkV a 1000=r at r0 r1 x
 have k:=ze G
 clear G
 have i:=fun W=>ze (x W)
 have e1:IntKind.i64.wrap (1+r)=1+r:=by rw[IntKind.wrap_i64];omega
 clear d x
 by_cases Z:100000<m.now+(1+r)
 ·have t:=ze (zgp (ud u) (1+r) ⟨by omega,by omega⟩ Z)
  go_enter func13,ntmps13
  go_wp2_with(first
   |(go_at_call 31;refine(ud (i _)).mono ?_;rintro e I ⟨rfl,y⟩;subst y)
   |(go_at_call 17;refine(ud t).mono ?_;rintro e V ⟨rfl,n⟩;have s:=ze n;clear n))
  go_ret
  have D:=(ud s)
  have h:jy c ep (zbO (1+pkV a 1000)) m m:=by rw[ud k];exact zgN (by omega)
  exact⟨rfl,m,m,ns,yL.same m ns,yL.same m ns,((ud u).later D).mono (Nat.le_succ j),(ud g).trans (Bel.of D (A o (ud g).size)),by rw[ud l];exact h⟩
 ·have t:=ze (zou (ud u) T X (1+r) ⟨by omega,by omega⟩ (by omega) (by omega))
  go_enter func13,ntmps13
  go_wp2_with(first
   |(go_at_call 31;refine(ud (i _)).mono ?_;rintro e I ⟨rfl,y⟩;subst y)
   |(go_at_call 17;refine(ud t).mono ?_;rintro e V ⟨rfl,n⟩;have s:=ze n;clear n))
  go_ret
  obtain⟨m',K,L,M,P⟩:=ud s
  have h:jy c ep (zbO (1+pkV a 1000)) m m':=by rw[ud k];exact P
  exact⟨rfl,m',m',ns,K,yL.same m' ns,L.mono (Nat.le_succ j),(ud g).trans M,by rw[ud l];exact h⟩
theorem zlW{w:S}{B p:Nat}{c:Cf}{ep:Int}{m:MS}{ns:List Nm}{j:Nat}(k:ZJ w B p c ep m ns j)(H:c.ok)(hf:c.fits)(x:xg ep)(kd a b v:Int)(ha: -9223372036854775808<=a/\a<=9223372036854775807)(hbb: -9223372036854775808<=b/\b<=9223372036854775807)(hv: -2147483648<=v/\v<=2147483647)(hj:j<4398046511104)(d:kd=3):
  Calls prog 13 #[(O p),.agg (kZz kd a b v)] w fun e w'=>e=.returned (.bool true)/\jY w w' B p c ep m ns j kd a b v:=by
 have z:=k.size
 have q:Hid (zik c ep kd a b v=Q8 (pkV a c.s)):=by subst d;rfl
 have g:Q w.1.size w (w.alloc (.cells (kZz kd a b v) 33)):=(E _ _).alloc (Y _) _
 have C:=zp w (.cells (kZz kd a b v) 33)
 have G:=k.later g
 obtain⟨o0,o1,o2,o3,-⟩:=zc C
 have ol:=zd C
 have l:=ze (Bel.of g z)
 have R:=ze g
 have D:=ze G
 have HS:=ze k
 clear g C G k
 have k1:(kd==1)=false:=by subst d;rfl
 have k2:(kd==2)=false:=by subst d;rfl
 have k3:(kd==3)=true:=by subst d;rfl
 have k4:(kd==4)=false:=by subst d;rfl
 have k5:(kd==5)=false:=by subst d;rfl
 have k6:(kd==6)=false:=by subst d;rfl
 have K:¬kd=1:=by omega
 have a0:=H.sl
 obtain⟨M,P,t⟩:=kr a c.s ha (by omega)
 generalize L:pkV a c.s=r at M P t
 have o:=ze L
 clear L
 have n:=fun W=>ze (t W)
 obtain⟨s9,k9,y,f,a1,-,I,-⟩:=ud D
 obtain⟨-,x2,-,-,-,-,-,-,i,-⟩:=f.cells
 have xl:=f.lt
 rw[y]at x2 i xl
 obtain⟨ka,kc,h⟩:=zS f.krow
 rw[zK]at h
 rw[h]at i
 clear f h d t
 have U:=ze (zjr ((ud D).later (E _ _).drew) H hf x r ⟨M,P⟩ hj)
 go_enter func13,ntmps13
 go_wp2_with fail
 generalize(w.alloc (.cells (kZz kd a b v) 33))=X at*
 refine xK 9 (by kernel_rfl) (by kernel_rfl) ?_
 simp only[List.take_succ_cons,List.take_zero,List.drop_succ_cons,List.drop_zero]
 repeat still_step
 still_call (ud (n _))
 refine wpStill_nil ?_
 go_wp2_with(first|(go_at_call 40;refine(ud U).mono ?_;rintro e V ⟨rfl,F⟩;have T:=ze F;clear F))
 go_ret
 obtain⟨m',Z,h2,h3,_,h5⟩:=ud T
 have u:jy c ep (Q8 (pkV a c.s)) m m':=by rw[ud o];exact h5
 exact⟨rfl,m',m',ns,Z,yL.same m' ns,h2,((ud l).drew).trans h3,by rw[ud q];exact u⟩
theorem zlX{w:S}{B p:Nat}{c:Cf}{ep:Int}{m:MS}{ns:List Nm}{j:Nat}(g:ZJ w B p c ep m ns j)(I:c.ok)(K:c.fits)(n:xg ep)(kd a b v:Int)(H: -9223372036854775808<=a/\a<=9223372036854775807)(hbb: -9223372036854775808<=b/\b<=9223372036854775807)(hv: -2147483648<=v/\v<=2147483647)(M:j<4398046511104)(d:kd=4):
  Calls prog 13 #[(O p),.agg (kZz kd a b v)] w fun e w'=>e=.returned (.bool true)/\jY w w' B p c ep m ns j kd a b v:=by
 have o:=g.size
 have i:=ze d
 have k:Hid (zik c ep kd a b v=XJ ep 4 a):=by subst d;rfl
 have f:Q w.1.size w (w.alloc (.cells (kZz kd a b v) 33)):=(E _ _).alloc (Y _) _
 have q:=zp w (.cells (kZz kd a b v) 33)
 have s:=g.later f
 obtain⟨Z,o1,o2,o3,-⟩:=zc q
 have ol:=zd q
 have h:=ze (Bel.of f o)
 have u:=ze f
 have z:=ze s
 have L:=ze g
 clear f q s g
 have P:(kd==1)=false:=by subst d;rfl
 have R:(kd==2)=false:=by subst d;rfl
 have T:(kd==3)=false:=by subst d;rfl
 have U:(kd==4)=true:=by subst d;rfl
 have W:(kd==5)=false:=by subst d;rfl
 have X:(kd==6)=false:=by subst d;rfl
 have t:¬kd=1:=by omega
 have x:=ze (zdf (ud z) I K n kd a b v H (by omega))
 clear d
 go_enter func13,ntmps13
 go_wp2_with(first|(go_at_call 41;refine(ud x).mono ?_;rintro e V ⟨rfl,r⟩;have y:=ze r;clear r))
 go_ret
 obtain⟨m',C,D,F,G⟩:=ud y
 have l:jy c ep (XJ ep 4 a) m m':=by rw[<-ud i];exact G
 exact⟨rfl,m',m',ns,C,yL.same m' ns,D.mono (Nat.le_succ j),(ud h).trans F,by rw[ud k];exact l⟩
theorem zlY{w:S}{B p:Nat}{c:Cf}{ep:Int}{m:MS}{ns:List Nm}{j:Nat}(g:ZJ w B p c ep m ns j)(I:c.ok)(K:c.fits)(n:xg ep)(kd a b v:Int)(H: -9223372036854775808<=a/\a<=9223372036854775807)(hbb: -9223372036854775808<=b/\b<=9223372036854775807)(hv: -2147483648<=v/\v<=2147483647)(M:j<4398046511104)(d:kd=5):
  Calls prog 13 #[(O p),.agg (kZz kd a b v)] w fun e w'=>e=.returned (.bool true)/\jY w w' B p c ep m ns j kd a b v:=by
 have o:=g.size
 have i:=ze d
 have k:Hid (zik c ep kd a b v=XJ ep 5 a):=by subst d;rfl
 have f:Q w.1.size w (w.alloc (.cells (kZz kd a b v) 33)):=(E _ _).alloc (Y _) _
 have q:=zp w (.cells (kZz kd a b v) 33)
 have s:=g.later f
 obtain⟨Z,o1,o2,o3,-⟩:=zc q
 have ol:=zd q
 have h:=ze (Bel.of f o)
 have u:=ze f
 have z:=ze s
 have L:=ze g
 clear f q s g
 have P:(kd==1)=false:=by subst d;rfl
 have R:(kd==2)=false:=by subst d;rfl
 have T:(kd==3)=false:=by subst d;rfl
 have U:(kd==4)=false:=by subst d;rfl
 have W:(kd==5)=true:=by subst d;rfl
 have X:(kd==6)=false:=by subst d;rfl
 have t:¬kd=1:=by omega
 have x:=ze (zdf (ud z) I K n kd a b v H (by omega))
 clear d
 go_enter func13,ntmps13
 go_wp2_with(first|(go_at_call 41;refine(ud x).mono ?_;rintro e V ⟨rfl,r⟩;have y:=ze r;clear r))
 go_ret
 obtain⟨m',C,D,F,G⟩:=ud y
 have l:jy c ep (XJ ep 5 a) m m':=by rw[<-ud i];exact G
 exact⟨rfl,m',m',ns,C,yL.same m' ns,D.mono (Nat.le_succ j),(ud h).trans F,by rw[ud k];exact l⟩
theorem zlZ{w:S}{B p:Nat}{c:Cf}{ep:Int}{m:MS}{ns:List Nm}{j:Nat}(G:ZJ w B p c ep m ns j)(M:c.ok)(hf:c.fits)(z:xg ep)(kd a b v:Int)(ha: -9223372036854775808<=a/\a<=9223372036854775807)(hbb: -9223372036854775808<=b/\b<=9223372036854775807)(hv: -2147483648<=v/\v<=2147483647)(hj:j<4398046511104)(f:kd=6):
  Calls prog 13 #[(O p),.agg (kZz kd a b v)] w fun e w'=>e=.returned (.bool true)/\jY w w' B p c ep m ns j kd a b v:=by
 have U:=G.size
 have x:Hid (zik c ep kd a b v=zau c ep a):=by subst f;rfl
 have k:Q w.1.size w (w.alloc (.cells (kZz kd a b v) 33)):=(E _ _).alloc (Y _) _
 have Z:=zp w (.cells (kZz kd a b v) 33)
 have hX:=G.later k
 obtain⟨o0,o1,o2,o3,-⟩:=zc Z
 have ol:=zd Z
 have q:=ze (Bel.of k U)
 have a3:=ze k
 have HX:=ze hX
 have HS:=ze G
 clear k Z hX G
 have k1:(kd==1)=false:=by subst f;rfl
 have k2:(kd==2)=false:=by subst f;rfl
 have k3:(kd==3)=false:=by subst f;rfl
 have k4:(kd==4)=false:=by subst f;rfl
 have k5:(kd==5)=false:=by subst f;rfl
 have k6:(kd==6)=true:=by subst f;rfl
 have a2:¬kd=1:=by omega
 have a4:=M.sl
 obtain⟨r0,r1,L⟩:=kr a c.s ha (by omega)
 generalize hr:pkV a c.s=r at r0 r1 L
 have u:=ze hr
 clear hr
 have K:=fun W=>ze (L W)
 obtain⟨s9,I,T,i,a6,-,a1,-⟩:=ud HX
 obtain⟨-,x2,-,-,-,-,-,-,D,-⟩:=i.cells
 have xl:=i.lt
 rw[T]at x2 D xl
 obtain⟨ka,kc,n⟩:=zS i.krow
 rw[zK]at n
 rw[n]at D
 clear i n f L
 have HT:=ze (zjr ((ud HX).later (E _ _).drew) M hf z r ⟨r0,r1⟩ hj)
 go_enter func13,ntmps13
 go_wp2_with fail
 generalize(w.alloc (.cells (kZz kd a b v) 33))=X at*
 refine xK 9 (by kernel_rfl) (by kernel_rfl) ?_
 simp only[List.take_succ_cons,List.take_zero,List.drop_succ_cons,List.drop_zero]
 repeat still_step
 still_call (ud (K _))
 refine wpStill_nil ?_
 go_wp2_with fail
 refine(ud HT).mono ?_
 rintro e V ⟨rfl,hP⟩
 have HP:=ze hP
 clear hP
 obtain⟨m',h1,h2,h3,h4,h5⟩:=ud HP
 have t:=ze h5
 clear h5
 have y:=h2
 obtain⟨s8,H,R,h,a5,-,a0,-⟩:=h2
 have F:=(h.cells).2.2.2.2.2.2.2.2.1
 have yl:=h.lt
 obtain⟨kb,a7,o⟩:=zS h.krow
 rw[zK]at o
 rw[o]at F
 rw[R]at F yl
 clear h o
 by_cases d:m'.num=m.num
 ·have P:((H:Int)==(I:Int))=true:=by simp;omega
  have C:(H:Int)=I:=by omega
  have g:=ze d
  clear d h4
  go_wp2_with fail
  go_ret
  have l:jy c ep (zau c ep a) m m':=zeE (by rw[ud u];exact ud t) (ud g)
  exact⟨rfl,m',m',ns,h1,yL.same m' ns,y,((ud q).drew).trans h3,by rw[ud x];exact l⟩
 ·have P:((H:Int)==(I:Int))=false:=by simp;omega
  have C:¬(H:Int)=I:=by omega
  have HE:=ze (zdf y M hf z 4 0 0 0 (by omega) (by omega))
  have g:=ze d
  clear d h4
  go_wp2_with(first|(go_at_call 41;refine(ud HE).mono ?_;rintro e U9 ⟨rfl,hQ⟩;have HQ:=ze hQ;clear hQ))
  go_ret
  obtain⟨m2,g1,g2,g3,g4⟩:=ud HQ
  have l:jy c ep (zau c ep a) m m2:=zgK (by rw[ud u];exact ud t) (ud g) g4
  exact⟨rfl,m',m2,ns,h1,g1,g2,((ud q).drew).trans (h3.trans g3),by rw[ud x];exact l⟩
theorem zma{w:S}{B p:Nat}{c:Cf}{ep:Int}{m:MS}{ns:List Nm}{j:Nat}(f:ZJ w B p c ep m ns j)(z:c.ok)(C:c.fits)(u:xg ep)(kd a b v:Int)(y: -9223372036854775808<=a/\a<=9223372036854775807)(hbb: -9223372036854775808<=b/\b<=9223372036854775807)(hv: -2147483648<=v/\v<=2147483647)(D:j<4398046511104)(k:kd<1\/6<kd):
  Calls prog 13 #[(O p),.agg (kZz kd a b v)] w fun e w'=>e=.returned (.bool true)/\jY w w' B p c ep m ns j kd a b v:=by
 have l:=f.size
 have h:Hid (zik c ep kd a b v=fun r=>r):=by funext r;unfold zik;rw[if_neg (by omega),if_neg (by omega),if_neg (by omega),if_neg (by omega),if_neg (by omega)]
 have d:Q w.1.size w (w.alloc (.cells (kZz kd a b v) 33)):=(E _ _).alloc (Y _) _
 have n:=zp w (.cells (kZz kd a b v) 33)
 have o:=f.later d
 obtain⟨M,P,R,T,-⟩:=zc n
 have U:=zd n
 have g:=ze (Bel.of d l)
 have s:=ze d
 have t:=ze o
 have x:=ze f
 clear d n o f
 have F:(kd==1)=false:=by simp;omega
 have G:(kd==2)=false:=by simp;omega
 have H:(kd==3)=false:=by simp;omega
 have I:(kd==4)=false:=by simp;omega
 have K:(kd==5)=false:=by simp;omega
 have L:(kd==6)=false:=by simp;omega
 have q:¬kd=1:=by omega
 clear k
 go_enter func13,ntmps13
 go_wp2_with fail
 go_ret
 have i:jy c ep (fun r=>r) m m:=zgS
 exact⟨rfl,m,m,ns,yL.same m ns,yL.same m ns,(ud t).mono (Nat.le_succ j),ud g,by rw[ud h];exact i⟩
theorem zor{w:S}{B p:Nat}{c:Cf}{ep:Int}{m:MS}{ns:List Nm}{j:Nat}(k:ZJ w B p c ep m ns j)(g:c.ok)(h:c.fits)(d:xg ep)(kd a b v:Int)(f: -9223372036854775808<=a/\a<=9223372036854775807)(hbb: -9223372036854775808<=b/\b<=9223372036854775807)(hv: -2147483648<=v/\v<=2147483647)(i:j<4398046511104):
  Calls prog 13 #[(O p),.agg (kZz kd a b v)] w fun e w'=>e=.returned (.bool true)/\jY w w' B p c ep m ns j kd a b v:=by
 by_cases l:kd=1
 ·exact zlU k g h d kd a b v f hbb hv i l
 by_cases n:kd=2
 ·exact zlV k g h d kd a b v f hbb hv i n
 by_cases o:kd=3
 ·exact zlW k g h d kd a b v f hbb hv i o
 by_cases q:kd=4
 ·exact zlX k g h d kd a b v f hbb hv i q
 by_cases r:kd=5
 ·exact zlY k g h d kd a b v f hbb hv i r
 by_cases s:kd=6
 ·exact zlZ k g h d kd a b v f hbb hv i s
 exact zma k g h d kd a b v f hbb hv i (by omega)
theorem zls(s le la wi ke qu:Int)(a:Option Addr)(n cap:Nat)(L T R:Nat->Int)(sa:Option Addr)(g V:Nat)(G:Nat->Y9)(w:S)(z:Qe w)(h1: -9223372036854775808<=s/\s<=9223372036854775807)(h2: -9223372036854775808<=le/\le<=9223372036854775807)(h3: -9223372036854775808<=la/\la<=9223372036854775807)(h4: -9223372036854775808<=wi/\wi<=9223372036854775807)(h5: -9223372036854775808<=ke/\ke<=9223372036854775807)(h6: -9223372036854775808<=qu/\qu<=9223372036854775807)(a7:TS w a n L T R)(hn:n<=140737488355328)(hF:∀i,i<n-> -9223372036854775808<=L i/\L i<=9223372036854775807)(hW:∀i,i<n-> -9223372036854775808<=T i/\T i<=9223372036854775807)(hK:∀i,i<n-> -9223372036854775808<=R i/\R i<=9223372036854775807)(a4:KS w sa g G)(al:g<4398046511104)(hG:∀i,i<g->(G i).fits):
  Calls prog 16 #[.agg #[I s,I le,I la,I wi,I ke,I qu,.slice a n cap],.slice sa g V] w (zpy (znn s le la wi ke qu n L T R) G w g):=by
 have l:Q w.1.size w (w.alloc (.cells #[I s,I le,I la,I wi,I ke,I qu,.slice a n cap] 27)):=(E _ _).alloc (Y _) _
 have q0:=zp w (.cells #[I s,I le,I la,I wi,I ke,I qu,.slice a n cap] 27)
 obtain⟨r0,r1,r2,r3,r4,r5,r6,-⟩:=zc q0
 have an:=zd q0
 have P:=ze (zlq s le la wi ke qu a n cap L T R (w.alloc (.cells #[I s,I le,I la,I wi,I ke,I qu,.slice a n cap] 27)) (jv z l) h1 h2 h3 h4 h5 h6 (a7.below l) hn hF hW hK)
 clear z
 have C:=ze l
 have ac:=ze a4
 have HG:=ze hG
 clear l q0 h1 h2 h3 h4 h5 h6 a7 hF hW hK a4 hG
 go_enter func16,ntmps16
 go_wp2_with fail
 generalize(w.alloc (.cells #[I s,I le,I la,I wi,I ke,I qu,.slice a n cap] 27))=X at*
 refine(ud P).mono ?_
 rintro e w1 ⟨c,p,a1,hr,hf,rfl,f,a0⟩
 have hc:=vJ hr
 have HR:=ze hr
 clear hr
 have ab:=ze a1
 clear a1
 have H:Hid (yh c 1 ⟨0,[],[],0,[],[]⟩ (zfF c 1 G 0)):=yh.new hc hf
 have Z:Q w.1.size w w1:=(ud C).trans (a0.mono (ud C).size)
 have ae:=ze f
 have a9:=ze Z
 have ag:xg 1:=by unfold xg;omega
 have a8:w.1.size<=X.1.size:=(ud C).size
 clear f a0 Z P r0 r1 r2 r3 r4 r5 r6
 go_wp2_with fail
 go_loopw [6,7] (fun y _ wr=>∃(t:Nat) (m:MS) (ns:List Nm),t<=g/\y=I t/\ZJ wr X.1.size p c 1 m ns t/\yh c 1 m (zfF c 1 G t)/\zoU ns/\Q w.1.size w wr) (fun y _ _=>g-(intOf y).toNat)
 case atStart=>exact⟨0,_,[],Nat.zero_le _,rfl,ud ae,ud H,(fun x hx=>by cases hx),ud a9⟩
 case round=>
  obtain⟨t,m,ns,ao,rfl,f,u,a6,d⟩:=hrel
  have h:=ze u
  have M:=ze a6
  clear u a6
  have am:(g:Int)<=4398046511104:=by omega
  by_cases a5:t<g
  ·have ak:(t:Int)<g:=by omega
   obtain⟨b,q,ah,k,a2⟩:=ud ac (by omega)
   subst ah
   obtain⟨g0,g1,g2,g3⟩:=a2 t a5
   have a3:=ud HG t a5
   have ad:Hid (zfF c 1 G (t+1)=zik c 1 (G t).kd (G t).a (G t).b (G t).v (zfF c 1 G t)):=rfl
   generalize G t=o at*
   obtain⟨kd,oa,ob,ov⟩:=o
   obtain⟨fa,fb,fv⟩:=a3
   dsimp only at g0 g1 g2 g3 fa fb fv
   have y0:=(d.cell (p:=(U b (q+t*4))) k).trans g0
   have y1:=(d.cell (p:=(U b (q+t*4+1))) k).trans g1
   have y2:=(d.cell (p:=(U b (q+t*4+2))) k).trans g2
   have y3:=(d.cell (p:=(U b (q+t*4+3))) k).trans g3
   have ap:=J k d.size
   have j:=ze (zor f hc hf ag kd oa ob ov fa fb fv (by omega))
   have aa:=ze d
   clear a2 f d g0 g1 g2 g3
   go_wp2_with fail
   refine(ud j).mono ?_
   rintro e V2 ⟨rfl,hP⟩
   obtain⟨m1,m',ai,hA,af,W,r,hD⟩:=hP
   have K:=ze (hD _ (ud h))
   have O:=ze ((ud M).act (ud h).sok hA)
   have F:=ze W
   have D:=ze ((ud aa).trans (r.bel.mono a8))
   clear W r hA af hD j y0 y1 y2 y3
   go_wp2_with fail
   go_roundw
   case rel=>exact⟨t+1,m',ai,by omega,by go_num,ud F,by rw[ud ad];exact ud K,ud O,ud D⟩
   case measure=>simp[intOf];omega
  ·have aj:decide ((t:Int)<g)=false:=by simp;omega
   have B:t=g:=by omega
   have F:=ze f
   have D:=ze d
   clear f d
   go_wp2_with fail
   go_ret
   exact⟨c,p,_,m,ns,ud ab,ud HR,hf,rfl,a8,B▸ud F,B▸ud h,ud M,ud D⟩
theorem KS.below{w w':S}{a:Option Addr}{n:Nat}{G:Nat->Y9}(h:KS w a n G)(f:Q w.1.size w w'):KS w' a n G:=fun g=>by
 obtain⟨b,d,rfl,c,j⟩:=h g
 have e:∀o,w'.cell? (U b o)=w.cell? (U b o):=fun o=>f.cell (p:=(U b o)) c
 exact⟨b,d,rfl,J c f.size,fun i k=>by simp only[e];exact j i k⟩
theorem Kx.lo{i:Ids}{w w':S}{B:Nat}(h:Kx i w w')(b:B<=w.1.size)(a:∀k,zG w i k->B<=k):Q B w w'/\∀k,zG w' i k->B<=k:=⟨h.kept.below b a,fun k c=>by
 rcases c with e|e
 ·exact a k (.inl e)
 ·rcases h.fs k e with e|e
  ·exact a k (.inr e)
  ·omega⟩
theorem zbx(s le la wi ke qu:Int)(a:Option Addr)(n cap:Nat)(F0 W0 K0:Nat->Int)(sa:Option Addr)(n2 aV:Nat)(G:Nat->Y9)(keep:Int)(w:S)(aJ:Qe w)(aY:Y8 w)(h1: -9223372036854775808<=s/\s<=9223372036854775807)(h2: -9223372036854775808<=le/\le<=9223372036854775807)(h3: -9223372036854775808<=la/\la<=9223372036854775807)(h4: -9223372036854775808<=wi/\wi<=9223372036854775807)(h5: -9223372036854775808<=ke/\ke<=9223372036854775807)(h6: -9223372036854775808<=qu/\qu<=9223372036854775807)(dj:TS w a n F0 W0 K0)(hn:n<=140737488355328)(hF:∀i,i<n-> -9223372036854775808<=F0 i/\F0 i<=9223372036854775807)(hW:∀i,i<n-> -9223372036854775808<=W0 i/\W0 i<=9223372036854775807)(hK:∀i,i<n-> -9223372036854775808<=K0 i/\K0 i<=9223372036854775807)(cT:KS w sa n2 G)(dN:n2<4398046511104)(hG:∀i,i<n2->(G i).fits):
  Calls prog 9 #[.agg #[I s,I le,I la,I wi,I ke,I qu,.slice a n cap],.slice sa n2 aV,I keep] w (Rz w (.bool true)):=by
 have u:Q w.1.size w (w.alloc (.cells #[I s,I le,I la,I wi,I ke,I qu,.slice a n cap] 27)):=(E _ _).alloc (Y _) _
 have q0:=zp w (.cells #[I s,I le,I la,I wi,I ke,I qu,.slice a n cap] 27)
 have bj:=fun W (e:Q w.1.size w W)=>ze (zls s le la wi ke qu a n cap F0 W0 K0 sa n2 aV G W (jv aJ e) h1 h2 h3 h4 h5 h6 (dj.below e) hn hF hW hK (cT.below e) dN hG)
 obtain⟨r0,r1,r2,r3,r4,r5,r6,-⟩:=zc q0
 have dc:=zd q0
 have cj:=bj _ u
 have bP:=ze u
 have Q0:=ze q0
 have ax:=ze aJ
 have al:=ze aY
 clear u q0 h1 h2 h3 h4 h5 h6 dj hF hW hK cT hG aJ aY
 go_enter func9,ntmps9
 go_wp2_with fail
 generalize(w.alloc (.cells #[I s,I le,I la,I wi,I ke,I qu,.slice a n cap] 27))=X at*
 refine(ud cj).mono ?_
 rintro e w1 ⟨c,p,B,m,ns,cN,hr,hf,rfl,hB,df,b8,dQ,b⟩
 have dU:=(ud bP).size
 have bq:Q w.1.size w w1:=(ud bP).trans (b.mono dU)
 have q1:=(b.block _ dc).trans (ud Q0)
 obtain⟨r0,r1,r2,r3,r4,r5,r6,-⟩:=zc q1
 have de:=J dc b.size
 have ck:=bj _ bq
 have ba:=ze bq
 have av:=ze b8
 have cp:=ze df
 have HR:=ze hr
 have bU:=ze cN
 clear b bq q1 b8 df hr bj cj cN
 go_wp2_with fail
 refine(ud ck).mono ?_
 rintro e w2 ⟨c2,p2,B2,m2,dX,b1,dR,dK,rfl,cD,dg,aI,b7,q⟩
 have dH:c=c2:=(ud bU).trans b1.symm
 subst dH
 clear b1 bU dR dK
 have T:=vJ (ud HR)
 obtain⟨F,k0,aF,L,eg,aE,e3,e6⟩:=ud cp
 obtain⟨s1,k1,aG,a4,eh,d7,e4,e7⟩:=dg
 have cZ:=L.foot_lt
 have b6:=L.mill.foot_lt
 have r:=L.later q
 have b5:=qL (f:=fun _=>False) (i:=F.i) (zh.of_below q) (fun e=>e) L.mill.dlt
 have aW:Q w.1.size w w2:=(ud ba).trans (q.mono (ud ba).size)
 --what the two shops have to do with ep cv
 have cK:∀j,ju s1 j\/zG w2 s1.i j->w1.1.size<=j:=fun j hj=>by
  rcases hj with hj|hj
  ·exact A cD (a4.foot_lo j hj)
  ·exact A cD (a4.mlo j hj)
 have cM:∀j,zG w2 F.i j->w.1.size<=j/\j<w1.1.size:=fun j hj=>⟨by have:=r.mlo j hj;omega,b6 j (b5 j hj)⟩
 have cA:kF c m m2:=(ud av).alike aI r.mill.okN a4.mill.okN
 obtain⟨fs,txt,nh,hD,hH,bJ,-,bw⟩:=r.mill.jrn
 have aL:Hid (∀j,ju F j->¬foot F.i.d fs j):=fun j hj e=>r.sep j hj (bw j e)
 have c3:Hid (F.d=F.i.d):=r.dd
 have dS:=(ud ax).lt
 have dG:=(ud al).lt
 --Stats
 obtain⟨c0,-,-,-,-,-,c9,-,bo,-⟩:=r.cells
 obtain⟨-,c1,-⟩:=zc r.head
 have d0:Cz w2 s1.p 0 (O s1.i.x):=a4.cells.1
 rw[aF]at c0 c1 c9 bo
 rw[aG]at d0
 rw[r.dd]at c1
 have ak:=r.lt
 have aH:=a4.lt
 rw[aF]at ak
 rw[aG]at aH
 have aw:=ze (qo r.mill T ⟨(aE.ok.seg.u0 T).1,by have:=(aE.ok.seg.u0 T).2;omega⟩ (by have:=aE.ok.seg.len400 T;omega))
 have cn:=ze r
 have co:=ze a4
 have dw:=ze aE
 have ci:=ze d7
 have e9:=ze cK
 have bS:=ze cM
 have bO:=ze cA
 have HH:=ze hH
 have be:=ze hD
 have c7:=ze bw
 have aS:=ze b7
 have bT:=ze aW
 have el:=(ud ba).size
 have em:=q.size
 clear q L r a4 aE d7 cK cM cA hD hH bw dQ b7 aW aI cp cZ b6 b5 ck r0 r1 r2 r3 r4 r5 r6 de
 go_wp2_with fail
 refine(ud aw).mono ?_
 rintro e V1 ⟨rfl,b⟩
 have o:Q w2.1.size w2 (V1.alloc (.cells (mZz c m 1) 37)):=b.alloc b.size _
 have q1:=zp V1 (.cells (mZz c m 1) 37)
 have dM:V1.1.size<(V1.alloc (.cells (mZz c m 1) 37)).1.size:=by rw[zN];omega
 have ek:=b.size
 have c0:=(o.cell (p:=(U p 0)) ak).trans c0
 have c1:=(o.cell (p:=(U p 1)) ak).trans c1
 have c9:=(o.cell (p:=(U p 9)) ak).trans c9
 have bo:=(o.cell (p:=(U p 11)) ak).trans bo
 have d0:=(o.cell (p:=(U p2 0)) aH).trans d0
 have ds:=J aH o.size
 have pl:=J ak o.size
 have dz:=ze o
 have Q1:=ze q1
 have au:=ze ((ud cn).later o)
 have a9:=ze ((ud co).later o)
 have bZ:=ze ((ud be).later o)
 have aK:=ze ((ud bT).trans (o.mono (ud bT).size))
 have an:=ze (zhy 0 F.i.d (jS 1 txt) fs keep _ 300000000000 (by decide) (zdu (by decide) bJ (by decide)) (Nat.zero_le _) ((ud be).later o))
 clear b o q1 aw cn co be dz
 go_wp2_with fail
 generalize(V1.alloc (.cells (mZz c m 1) 37))=Z1 at*
 refine(ud an).mono ?_
 rintro e V2 ⟨rfl,dE,br,q,eo,b2⟩
 rw[zeV]at br
 have ah:∀k,foot Z1.1.size dE k->Z1.1.size<=k:=fun k t=>by
  rcases t with e|e
  ·omega
  ·exact b2 k e
 have dp:=(ud aK).size
 have az:=(ud aK).trans (q.mono dp)
 have a1:=ze (zgW ((ud au).later q) (ud HR) hf (ud HH) bJ br (fun k t=>by have:=ah k t;omega) (jv (ud ax) az) ((ud al).later az))
 rw[aF]at a1
 have bg:=ze ah
 have bb:=ze q
 clear br q ah b2 az an c0
 go_wp2_with fail
 refine(ud a1).mono ?_
 rintro e V3 ⟨iz,mz,rfl,dJ,ag,d6,b9,db,bF,cU,ah⟩
 have dr:=(ud bb).size
 have P:Q Z1.1.size Z1 V3:=(ud bb).trans (cU.below dr (ud bg))
 have d4:∀k,zG V3 iz k->Z1.1.size<=k:=fun k t=>by
  rcases ah k t with e|e
  ·exact ud bg k e
  ·omega
 obtain⟨kz,bD⟩:=ag.sok T
 have cC:kF c mz m2:=(kF.again (ud av) d6 b9 bF).trans (ud bO)
 have cJ:=xA.new bF rfl
 have a3:=ze (zem ((ud a9).later P) ag.own ((ud a9).later P).mill.own T bD.ok (ud ci).ok (ud aS) (by omega) cC)
 rw[aG]at a3
 have ap:=fun W (e:Q V3.1.size V3 W)=>ze (zaH (ag.later e).own T bD.ok db cJ)
 have cs:=fun W (e:Q V3.1.size V3 W)=>ze (ziy (ag.later e) T)
 have d3:=(P.cell (p:=(U p2 0)) ds).trans d0
 have ed:=J ds P.size
 have cw:=(P.cell (p:=(U p 9)) pl).trans c9
 have dC:=J pl P.size
 have bQ:=ze P
 have dv:=ze d4
 have ch:=ze ag
 have dP:=d6
 clear P d4 ag bD cC cJ cU ah b9 bF db a1 bb bg dJ
 go_wp2_with fail
 refine(ud a3).mono ?_
 rintro e V4 ⟨rfl,h⟩
 have c5:=ap _ h
 have ae:=ze h
 clear h a3 ap
 go_wp2_with fail
 refine(ud c5).mono ?_
 rintro e V5 ⟨rfl,cL⟩
 have R:=(ud ae).trans (cL.mono (ud ae).size)
 have cr:=cs _ R
 have dF:=(ud ch).later R
 obtain⟨aC,cW⟩:=((ud ch).below R).lo (ud bQ).size (ud dv)
 have dq:=(ud bQ).trans aC
 have cx:=(R.cell (p:=(U p 9)) dC).trans cw
 have bm:=ze dq
 have ce:=ze cW
 clear cL R dF aC cW dq c5 cs ae d3 cw
 go_wp2_with fail
 refine(ud cr).mono ?_
 rintro e V6 ⟨v6,m6,rfl,cH,dO,-,cF⟩
 obtain⟨bt,cX⟩:=cF.lo (ud bm).size (ud ce)
 have bL:=(ud bm).trans bt
 have dB:=(bt.cell (p:=(U p 9)) pl).trans cx
 have eb:=J pl bL.size
 have e8:=(ud dw).ok.now
 have cd:=ze (zln cH T (m.now+1) (by omega))
 have bn:=ze bL
 have cf:=ze cX
 have en:wrap64 (m.now+1)=m.now+1:=by unfold wrap64;omega
 clear cH dO cF bt cX bL cr ce bm cx
 go_wp2_with fail
 refine(ud cd).mono ?_
 rintro e V7 ⟨⟨v7,rfl⟩,cG⟩
 have a0:=(ud bn).trans (cG.lo (ud bn).size (ud cf)).1
 have aB:=(ud au).later a0
 have aX:=(ud a9).later a0
 have cE:=(ud bZ).later a0
 have aQ:=(ud aK).trans (a0.mono dp)
 have da:=(a0.block _ dM).trans (ud Q1)
 have bv:∀k,foot F.i.d fs k->w.1.size<=k/\k<w1.1.size:=fun k t=>ud bS k (ud c7 k t)
 have a1:=ze (zgW aB (ud HR) hf (ud HH) bJ cE (fun k t=>by have:=(bv k t).1;omega) (jv (ud ax) aQ) ((ud al).later aQ))
 rw[aF]at a1
 have dA:Cz V7 p 1 (O F.i.d):=(a0.cell (p:=(U p 1)) pl).trans c1
 have dY:=J pl a0.size
 have a7:=ze aB
 have a8:=ze aX
 have a2:=ze bv
 have bk:=ze aQ
 have cl:=ze da
 clear cG a0 aB aX cE aQ da bv cd bn cf dB au a9 bZ aK bS c7
 go_wp2_with fail
 refine(ud a1).mono ?_
 rintro e V8 ⟨ix,mx,rfl,dI,af,d5,dh,bI,bE,a6,cS⟩
 have M:zV V8 B2 s1 c 1 m2 m2.now dX (Zn 1 k1) (yK 1 m2.QL k1):=(ud a8).kept a6 (fun j hj e=>by have h1:=(ud a8).foot_lo j hj;have h2:=(ud a2 j e).2;omega) (fun j hj e=>by have h1:=(ud a8).mlo j hj;have h2:=(ud a2 j e).2;omega) (fun e=>by have h2:=(ud a2 _ e).1;omega)
 have aP:=a6.heap (ud a7).head (ud aL _ (.inl rfl))
 rw[aF]at aP
 have ai:=zi (ud a7).krow a6 (fun j e=>ud aL j (.inr (.inr (.inr (.inl e)))))
 have cP:=zi (ud a7).crow a6 (fun j e=>ud aL j (.inr (.inl e)))
 have bG:=a6.heap (ud cl) (fun e=>by have:=(ud a2 _ e).2;omega)
 have dl:=(ud bk).size
 have dm:Q w.1.size w V8:=(ud bk).trans (a6.below dl (fun k t=>(ud a2 k t).1))
 have d2:∀k,zG V8 ix k->w.1.size<=k:=fun k t=>by
  rcases cS k t with e|e
  ·exact(ud a2 k e).1
  ·omega
 obtain⟨kx,aj⟩:=af.sok T
 have cB:kF c mx m2:=(kF.again (ud av) d5 dh bE).trans (ud bO)
 have cI:=xA.new bE rfl
 have a3:=ze (zem M af.own M.mill.own T aj.ok (ud ci).ok (ud aS) (by omega) cB)
 rw[aG]at a3
 have ap:=fun W (e:Q V8.1.size V8 W)=>ze (zaH (af.later e).own T aj.ok bI cI)
 have aw:=fun W (e:Q V8.1.size V8 W)=>ze (qo (af.later e) T ⟨(aj.ok.seg.u0 T).1,by have:=(aj.ok.seg.u0 T).2;omega⟩ (by have:=aj.ok.seg.len400 T;omega))
 have d8:=M.cells.1
 have cy:=M.lt
 rw[aG]at d8 cy
 have dt:=zd bG
 have bM:=zd aP
 have bi:=ze af
 have cb:=ze aP
 have bh:=ze ai
 have an:=ze cP
 have cm:=ze bG
 have aM:=ze dm
 have cg:=ze d2
 clear M aP ai cP bG dm d2 aj cB cI af d5 dh bE a6 cS a1 a7 a8 cl bk a2 dA dY aL
 go_wp2_with fail
 refine(ud a3).mono ?_
 rintro e V9 ⟨rfl,bu⟩
 have c6:=ap _ bu
 have bc:=ze bu
 clear bu a3 ap
 go_wp2_with fail
 refine(ud c6).mono ?_
 rintro e ea ⟨rfl,aZ⟩
 have a5:=(ud bc).trans (aZ.mono (ud bc).size)
 have aU:=aw _ a5
 have am:=ze a5
 clear aZ a5 c6 aw bc d8
 go_wp2_with fail
 refine(ud aU).mono ?_
 rintro e aN ⟨rfl,b0⟩
 have C:=(ud am).trans (b0.mono (ud am).size)
 have l:Q V8.1.size V8 (aN.alloc (.cells (mZz c mx 2) 37)):=C.alloc C.size _
 have bN:=zp aN (.cells (mZz c mx 2) 37)
 have cV:=zd bN
 obtain⟨-,-,-,n3,-⟩:=zc bN
 have bH:=(l.block _ dt).trans (ud cm)
 obtain⟨-,-,-,w3,-⟩:=zc bH
 have dV:=zd bH
 have dZ:=ze l
 have b4:=(ud bi).later l
 have H:=ze b4
 have b3:=(l.block _ bM).trans (ud cb)
 have aR:=ze b3
 have aq:=ze (zR (ud bh) l)
 have ao:=ze (zR (ud an) l)
 have aa:=ze ((ud aM).trans (l.mono (ud aM).size))
 have ar:=ze (((ud bi).below l).lo (ud aM).size (ud cg)).2
 have dk:¬V1.1.size=aN.1.size:=by have:=C.size;omega
 obtain⟨ka,kc,bB⟩:=zS (ud bh)
 rw[zK]at bB
 have aT:=ze (J bM l.size)
 clear b0 C l bN bH b4 b3 aU am bi cb bh an cm aM cg
 go_wp2_with fail
 generalize(aN.alloc (.cells (mZz c mx 2) 37))=Z at*
 have ei:(k0:Int)<=4398046511104:=by omega
 clear n3 w3 dV dk cV bM cy dt
 go_loopw [17,18,19] (fun y _ _ wr=>∃j:Nat,j<=k0/\y=I j/\Q Z.1.size Z wr) (fun y _ _ _=>k0-(intOf y).toNat)
 case atStart=>exact⟨0,Nat.zero_le _,rfl,E _ _⟩
 case round=>
  obtain⟨j,hj,rfl,hb⟩:=hrel
  have hh:=(hb.block _ (ud aT)).trans (ud aR)
  obtain⟨-,-,-,-,-,-,-,-,-,-,-,bp,-⟩:=zc hh
  rw[bB]at bp
  have cz:=zd hh
  have bR:=ze hb
  by_cases cY:j<k0
  ·have e5:(j:Int)<k0:=by omega
   have ai:=zR (ud aq) hb
   rw[bB]at ai
   obtain⟨g,e2,hv,bx,t0,t1⟩:=yt ai (j:=j) (by rw[zK];exact cY)
   have dT:ka=N (U g 0):=by injection hv
   have e0:(Zn 1 k0)[j]'(by rw[zK];exact cY)=⟨1,(j:Int)+1⟩:=by simp[Zn]
   rw[e0]at t0 t1
   dsimp only at t0 t1
   subst dT
   have bK:(⟨1,(j:Int)+1⟩:Tok).wf:=by unfold Tok.wf xg;dsimp only;omega
   have bz:zD mx.QL ⟨1,(j:Int)+1⟩=none:=by rw[bI];rfl
   have HC:=fun W (e:Q wr.1.size wr W)=>ze (XH ((ud H).later (hb.trans (e.mono hb.size))) ⟨1,(j:Int)+1⟩ bK bz)
   have HF:=fun W (e:Q wr.1.size wr W)=>ze (Je ((ud H).later (hb.trans (e.mono hb.size))) ⟨1,(j:Int)+1⟩ bK bz)
   clear hb hh ai hv e0 bK bz bI
   go_wp2_with fail
   refine(ud (HC _ (E _ _))).mono ?_
   rintro e Y1 ⟨rfl,b⟩
   have dD:=(b.cell (p:=(U p 11)) cz).trans bp
   have ef:=J cz b.size
   have f0:=(b.cell (p:=(U g (j*2))) bx).trans t0
   have f1:=(b.cell (p:=(U g (j*2+1))) bx).trans t1
   have ee:=J bx b.size
   have c4:=HF _ b
   have cu:=ze b
   clear b bp t0 t1 HC HF
   go_wp2_with fail
   refine(ud c4).mono ?_
   rintro e Y2 ⟨rfl,q⟩
   have dy:=ze ((ud bR).trans (((ud cu).trans (q.mono (ud cu).size)).mono (ud bR).size))
   clear q c4 dD f0 f1
   go_wp2_with fail
   go_roundw
   case rel=>exact⟨j+1,by omega,by go_num,ud dy⟩
   case measure=>simp[intOf];omega
  ·have dL:j=k0:=by omega
   subst dL
   have ej:decide ((j:Int)<j)=false:=by simp
   have bs:=(ud H).later hb
   have d1:=(((ud H).below hb).lo (ud aa).size (ud ar)).2
   have dn:=(ud aa).trans (hb.mono (ud aa).size)
   have aO:=zR (ud ao) hb
   obtain⟨fx,tx,nx,aA,-,di,-,ac⟩:=bs.jrn
   rw[dI]at aA ac
   have e1:wr.cell? (U p 1)=N (O F.i.d):=by rw[xH hh,<-ud c3];rfl
   have cq:=ze (zmd 0 F.i.d (jS (2:Int).toNat tx) fx 0 wr aA)
   have d9:¬foot F.i.d fx p:=fun e=>bs.tag hh (by decide) (ac p e)
   have cO:∀k,F.ct.ownBlock=N k->¬foot F.i.d fx k:=fun k t e=>by
    rcases e with e|e
    ·exact zr aA.head aO (by decide) k t e
    ·exact xx aO aA.row (by decide) k t e
   have c8:Hid (∀k,foot F.i.d fx k->w.1.size<=k):=fun k t=>d1 k (ac k t)
   have HH:=ze hh
   have bX:=ze aO
   have bl:=ze dn
   clear hb hh bs d1 dn aO aA ac H aR aq ao aa ar aT
   go_wp2_with fail
   refine(ud cq).mono ?_
   rintro e v ⟨rfl,K,ad⟩
   rw[zov]at K
   have V:=ad.heap (ud HH) d9
   have ab:=zi (ud bX) ad cO
   obtain⟨ca,cc,cQ⟩:=zS ab
   rw[cQ]at ab V
   have g1:v.cell? (U p 1)=N (O F.i.d):=by rw[xH V,<-ud c3];rfl
   obtain⟨-,-,g2,g3,g4,g5,g6,g7,g8,-⟩:=zc V
   have z:=zd V
   have ay:=ze ((ud bl).trans (ad.below (ud bl).size (ud c8)))
   have bd:=fun W (hW:Q v.1.size v W)=>ze (Qi c T ca cc W (TS.of_owns (zR ab hW)))
   have bV:=bd v (E _ _)
   have bW:=bd v.drew (E _ _).drew
   have bY:=ze K
   have aD:∀k,foot F.i.d fx k->k<v.1.size:=fun k t=>by
    rcases t with e|e
    ·rw[e];exact K.lt
    ·obtain⟨ec,cR⟩:=zH K.row e;exact zd cR
   have bf:=ze aD
   clear K ad V ab bd bV aD cq HH bX bl e1 cQ cO
   go_wp2_with fail
   go_region_held3 (fun w'=>w'.cell? (U p 1)=N (O F.i.d)/\w'.cell? (U p 2)=N (I c.s)/\w'.cell? (U p 3)=N (I c.le)/\w'.cell? (U p 4)=N (I c.la)/\w'.cell? (U p 5)=N (I c.wi)/\w'.cell? (U p 6)=N (I c.ke)/\w'.cell? (U p 7)=N (I c.qu)/\w'.cell? (U p 8)=N (.slice ca c.n cc)) (first|go_keep) (first
    |(go_at_call 30;(with_reducible refine(ud bW).mono ?_);rintro e w4 ⟨gg,rfl,bC,u⟩;have h:Q v.1.size v w4:=⟨u.os,u.tape,u.output,u.size,u.block⟩;have i1:=(h.cell (p:=(U p 1)) z).trans g1;have i2:=(h.cell (p:=(U p 2)) z).trans g2;have i3:=(h.cell (p:=(U p 3)) z).trans g3;have i4:=(h.cell (p:=(U p 4)) z).trans g4;have i5:=(h.cell (p:=(U p 5)) z).trans g5;have i6:=(h.cell (p:=(U p 6)) z).trans g6;have i7:=(h.cell (p:=(U p 7)) z).trans g7;have i8:=(h.cell (p:=(U p 8)) z).trans g8;have dW:=J z h.size;have dx:=ze (zfH c (ud HR) (N (U gg 0)) c.n F.i.d _ fx w4 ((ud bY).later h) 300000000000 (by decide) (zkh (by decide) di (by decide)) (zeM _) (fun w' t=>TS.of_owns (zi bC t (fun k t e=>by have h1:=(bC.lt k t).1;have h2:=ud bf k e;have h3:v.1.size<=k:=h1;omega))));have ae:=ze h;clear h u bC)
    |(go_at_call 29;(with_reducible refine(ud dx).mono ?_);rintro e w5 ⟨rfl,bA⟩;have D:=bA.block p dW d9;have j1:=(World.cell?_of_block (a:=(U p 1)) D).trans i1;have j2:=(World.cell?_of_block (a:=(U p 2)) D).trans i2;have j3:=(World.cell?_of_block (a:=(U p 3)) D).trans i3;have j4:=(World.cell?_of_block (a:=(U p 4)) D).trans i4;have j5:=(World.cell?_of_block (a:=(U p 5)) D).trans i5;have j6:=(World.cell?_of_block (a:=(U p 6)) D).trans i6;have j7:=(World.cell?_of_block (a:=(U p 7)) D).trans i7;have j8:=(World.cell?_of_block (a:=(U p 8)) D).trans i8;have du:=ze bA;clear bA D))
   clear j1 j2 j3 j4 j5 j6 j7 j8 i1 i2 i3 i4 i5 i6 i7 i8 g1 g2 g3 g4 g5 g6 g7 g8
   go_wp2_with fail
   go_ret
   exact⟨rfl,((ud ay).trans ((ud ae).mono (ud ay).size)).trans ((ud du).below (A (ud ay).size (ud ae).size) (ud c8))⟩
end Go.Proofs.YtndhpgciopcncaaGreatDoor
namespace Go.Proofs.YtndhpgciopcncaaGreatDoor
open Go.ChangeShapes Go.WideShapes Go.ChangeAt Go.RowKit
theorem zcZ:ownKnob prog.godebug=none:=by kernel_rfl
theorem vn:laidOutB prog=true:=by kernel_rfl
theorem KW(os:Os)(g:os.Started)(H:Type)(enc:TypeId×Value->H):
  ReturnsInHanded {} Tryz.checked os 9 .any (fun w args=>(Rows.reopenedSpec.pre enc prog Tryz.f9 [] false w args/\laidMetH prog zkb w)/\sizedMet enc prog Tryz.f9 (OpenSpec.ofChange Rows.reopenedSpec) false w args) (Rows.reopenedSpec.post enc prog Tryz.f9 false true false false):=by
 refine returnsInHanded_of_change_and (C:=Tryz.checked) (X:=fun w _=>laidMetH prog zkb w) (fun _ _ _ hh h=>h.of_heap hh) zcZ g (by kernel_rfl) func9
  (ChangeSpec.witness_shaped (enc:=enc) (C:=Tryz.checked) (os:=os) (X:=fun w _=>laidMetH prog zkb w) false (World.laidAll prog os zkb) #[.agg #[I 0,I 0,I 0,I 0,I 0,I 0,.slice none 0 0],.slice none 0 0,I 0] 8 (World.laidAll_os _ _ _)
   (World.shaped_of_ZipB (by kernel_rfl) (by kernel_rfl)) (by kernel_rfl) (by kernel_rfl) (by kernel_rfl) (znM os _)) ?_
 intro W base args ds gs O d hW a9 L i _
 have b:∀(j:Nat) t v,Tryz.f9.params[j]?=N t->args[j]?=N v->Value.okWide prog W .any base t v:=d
 have o:(DataW.weightsEach prog (Tryz.f9.params.toList++Rows.reopenedSpec.plain.varTypes prog) (ds++gs)).all (· <=reachBytes)=true:=L
 have T:=hW
 obtain⟨p,q,u,hV,rfl,af,ag⟩:=hW
 have hA:DataW.TrodAll enc prog W 0 (fun _=>true) true Tryz.f9.params.toList args.toList ds p:=u
 rw[params9]at hA b o
 obtain⟨v0,ah,d0,aa,p0,q0,V,rfl,rfl,h0,r0⟩:=trodAll_cons hA
 obtain⟨v1,ai,d1,ab,p1,q1,rfl,rfl,rfl,h1,r1⟩:=trodAll_cons r0
 obtain⟨v2,aj,d2,ac,p2,q2,rfl,rfl,rfl,h2,r2⟩:=trodAll_cons r1
 obtain⟨rfl,rfl,rfl⟩:=trodAll_nil r2
 obtain rfl:args=#[v0,v1,v2]:=by cases args;simp_all
 obtain⟨rfl,rfl⟩:=trodVars_none hV
 obtain⟨cs,rfl,ae⟩:=okWide_struct underlying27 (b 0 27 v0 rfl rfl)
 obtain⟨P,f,c,rfl⟩:=okWide_slice underlying28 (b 1 28 v1 rfl rfl)
 obtain⟨kp,rfl⟩:=okWide_int underlying3 (b 2 3 v2 rfl rfl)
 have k0:=h0
 have k1:=h1
 have k2:=h2
 have a5:∀x∈p0,x.block<W.1.size:=by obtain⟨m,F⟩:=k0;exact DataW.trod_lt m _ _ _ F
 have a6:∀x∈p1,x.block<W.1.size:=by obtain⟨m,F⟩:=k1;exact DataW.trod_lt m _ _ _ F
 have a7:∀x∈p2,x.block<W.1.size:=by obtain⟨m,F⟩:=k2;exact DataW.trod_lt m _ _ _ F
 obtain⟨r,hf⟩:=h0
 obtain⟨l,D⟩:=h1
 obtain⟨R,Z⟩:=h2
 have B:DataW.trod enc prog W 0 (fun _=>true) true r 27 cs.toList=N (d0,p0):=by simpa[Value.cells]using hf
 have k:DataW.trod enc prog W 0 (fun _=>true) true l 28 [.slice P f c]=N (d1,p1):=by simpa[Value.cells]using D
 obtain⟨s,le,la,wi,ke,qu,a,n,cap,Fr,Wd,K,ad,a4,⟨b1,b2,b3,b4,b5,b6⟩,⟨hF,U,hK⟩,M⟩:=zaU B
 have z:cs=#[I s,I le,I la,I wi,I ke,I qu,.slice a n cap]:=by cases cs;simp_all
 have hn:n<=140737488355328:=by
  have:=M (fun y hy=>by
   have:=List.all_eq_true.1 o y (DataW.weights_mem_each (j:=0) rfl rfl y hy)
   simpa using this)
  simp only[reachBytes]at this
  omega
 obtain⟨a2,n2,a8,G,hc2,a0,a3,hG⟩:=zcy k (fun y hy=>by
  have:=List.all_eq_true.1 o y (DataW.weights_mem_each (j:=1) rfl rfl y hy)
  simpa using this)
 simp at hc2
 obtain⟨rfl,rfl,rfl⟩:=hc2
 clear Z
 clear u d hf B M D k
 refine(show Calls prog 9 #[.agg cs,.slice P f c,I kp] W _ from z▸zbx s le la wi ke qu a n cap Fr Wd K P f c G kp W (zdo i) (zcc i) b1 b2 b3 b4 b5 b6 a4 hn hF U hK a0 a3 hG).mono fun e W' ⟨he,bel⟩=>?_
 subst he
 exact⟨_,rfl,_,_,_,[],_,[],T,trodAll_mk1 (shut_bool underlying4 _),(trodAll_cons_mk (Below.trod vn (by kernel_rfl) (of_decide_eq_true (by kernel_rfl)) k0 bel a5) (trodAll_cons_mk (Below.trod vn (by kernel_rfl) (of_decide_eq_true (by kernel_rfl)) k1 bel a6) (trodAll_cons_mk (Below.trod vn (by kernel_rfl) (of_decide_eq_true (by kernel_rfl)) k2 bel a7) trodAll_mk0))),rfl,bel.frame _,fun h=>by cases h⟩
theorem KZ:Rows.ReopenedSaid:=
 OpenClaim.holds_of_wide 9 Tryz.f9 rfl rfl rfl rfl rfl rfl rfl ⟨rfl,rfl,rfl,rfl,rfl⟩ rfl rfl rfl rfl rfl (by kernel_rfl) func9 KV
  (of_decide_eq_true (by kernel_rfl)) (by unfold Func.isWrapper;first|(rw[if_pos (by decide+kernel)];kernel_rfl)|(rw[if_neg (by decide+kernel)];exact⟨rfl,rfl⟩))
  (fun os a H enc _=>KW os a H enc)
theorem reopenedCard_holds:Rows.ReopenedCardSaid:=
 Claim7.holds_tied_plain_at .later [] [.data,.data,.data,.sentinel,.sentinel,.listed,.data] true (true, "e4703e471f700b14ef4f5b2136a5b11b72e3551741bf1531b3f191eeb70a92c1") true
  KZ (fun _ h=>by cases h) (by kernel_rfl) (fun _ h=>by cases h) reopened_row_tie rfl ⟨rfl,rfl⟩ (by kernel_rfl) rfl
  (fun f fn d b=>by
   obtain rfl:f=9:=Option.some.inj ((show prog.funcNamed "mill/millkeep.Reopened" =N 9 by kernel_rfl).symm.trans d)|>.symm
   obtain rfl:fn=Tryz.f9:=(Option.some.inj (func9.symm.trans b)).symm
   exact⟨by kernel_rfl,fun j t c=>by
    rw[params9]at c
    have e:t∈[27,28,3]:=by simpa using Array.mem_of_getElem? c
    have a:([27,28,3].all fun u=>!prog.wantsStandIn u)=true:=by kernel_rfl
    exact(show prog.wantsStandIn t=false by simpa using List.all_eq_true.1 a t e)⟩)
  (by kernel_rfl)
#print axioms reopenedCard_holds
end Go.Proofs.YtndhpgciopcncaaGreatDoor
