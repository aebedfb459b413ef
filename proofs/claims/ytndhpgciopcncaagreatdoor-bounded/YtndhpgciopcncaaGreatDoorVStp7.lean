import Derived.Test.YtndhpgciopcncaaGreatDoorVOpd0
import Derived.Test.YtndhpgciopcncaaGreatDoorVStp5
import Derived.Test.YtndhpgciopcncaaGreatDoorVStp6
open Go.Value renaming int → I
open Go.IntKind renaming i64 → J
open Go.RowKit.Below renaming refl → K
open Nat renaming le_refl → O
open Go.IntKind (i32)
set_option linter.unusedVariables false
set_option maxRecDepth 20000
set_option maxHeartbeats 4000000
open Go.Proofs.Tryz
namespace Go.Proofs.YtndhpgciopcncaaGreatDoor
open Go.RowKit Go.Maps Go.Shelf
theorem zbD{w:World}{B p:Nat}{c:Cf}{ep:Int}{m:MS}{ns:List Nm}{j:Nat}(q:Yh w B p c ep m ns j 0)(kd a b v:Int):
  Calls prog 41 #[.pointer (some ⟨p,0,none⟩),.agg #[I J kd,I J a,I J b,I i32 v]] w fun e w'=>e=.returned (.bool true)/\jJ w w' B p c ep m ns j:=by
 have l:=q.size
 obtain⟨⟨H,G,F,x,z,y,A⟩,rfl,h,u,o,i,k⟩:=q
 dsimp only at*
 obtain⟨D,E,f⟩:=zL h.krow
 rw[zF]at f
 dsimp only at f
 subst f
 have d:Below w.1.size w (w.alloc (.cells #[I J kd,I J a,I J b,I i32 v] 33)):=(K _ _).alloc (O _) _
 have g:=h.later d
 obtain⟨-,-,-,-,-,-,-,-,n,-⟩:=g.cells
 dsimp only at n
 have C:=g.lt
 dsimp only at C
 have t:=zd g
 have r:=zd (Bel.of d l)
 have s:=zd o
 clear h g d o
 go_enter func41,ntmps41
 go_wp2_with fail
 go_ret
 exact⟨rfl,m,yn.same m ns,⟨_,0,rfl,ud t,u,ud s,i,k⟩,ud r⟩
theorem Qf{w:World}{B p:Nat}{c:Cf}{ep:Int}{m:MS}{ns:List Nm}{j:Nat}(n:vC w B p c ep m ns j)(q:c.ok)(y:c.fits)(f:xg ep)(kd a b v:Int)(V: -9223372036854775808<=a/\a<=9223372036854775807)(z:j<=4398046511104):
  Calls prog 41 #[.pointer (some ⟨p,0,none⟩),.agg #[I J kd,I J a,I J b,I i32 v]] w fun e w'=>e=.returned (.bool true)/\jJ w w' B p c ep m ns j:=by
 obtain⟨s,k,R,S,W,T,L,N⟩:=n
 have n:Yh w B p c ep m ns j k:=⟨s,R,S,W,T,L,N⟩
 clear R S
 by_cases G:k=0
 ·subst G
  exact zbD n kd a b v
 ·obtain⟨r,A,C,u⟩:=xT a k V (by omega)
  have l:(k:Int)-1-r=(((k:Int)-1-r).toNat:Int):=by omega
  have h:((k:Int)-1-r).toNat<k:=by omega
  generalize((k:Int)-1-r).toNat=i at*
  cases t:zY m.QL ⟨ep,(i:Int)+1⟩with
  |none=>
   by_cases d:kd=5
   ·exact zdZ n q y f kd a b v i h r l ⟨A,C⟩ u z d t
   ·exact zdY n q y f kd a b v i h r l ⟨A,C⟩ u z d t
  |some g=>
   obtain⟨x,Q,o,hin,M,P⟩:=T.job q t
   by_cases d:kd=5
   ·exact zbC n q y f kd a b v i h r l ⟨A,C⟩ u z d t Q o P
   ·obtain⟨rl,U,E,F,D⟩:=x
    cases rl with
    |true=>
     obtain⟨X,H⟩:=M rfl
     exact zbF n q y f kd a b v i h r l ⟨A,C⟩ u z d t U E F D Q o hin X H
    |false=>exact zbE n q y f kd a b v i h r l ⟨A,C⟩ u z d t U E F D Q o hin
def kt(w w':World)(B p:Nat)(c:Cf)(ep:Int)(m:MS)(ns:List Nm)(j:Nat)(kd:Int):Prop:=∃b m' a,yn c ep m ns b a/\yn c ep b a m' a/\vC w' B p c ep m' a (j+1)/\Bel B w w'/\(kd=1->(m'=m/\a=ns/\c.qu<zm m.L+1+2*c.n)\/∃x,a=ns++[x]/\zm m.L<zm m'.L/\zm m'.L<=zm m.L+1+2*c.n)/\(¬kd=1->a=ns)
theorem ziD{w:World}{B p:Nat}{c:Cf}{ep:Int}{m:MS}{ns:List Nm}{j:Nat}(h:vC w B p c ep m ns j)(C:c.ok)(E:c.fits)(D:xg ep)(kd a b v:Int)(A: -9223372036854775808<=a/\a<=9223372036854775807)(hbb: -9223372036854775808<=b/\b<=9223372036854775807)(hv: -2147483648<=v/\v<=2147483647)(F:j<4398046511104)(d:kd=1):
  Calls prog 13 #[.pointer (some ⟨p,0,none⟩),.agg #[I J kd,I J a,I J b,I i32 v]] w fun e w'=>e=.returned (.bool true)/\kt w w' B p c ep m ns j kd:=by
 have k:=h.size
 have f:Below w.1.size w (w.alloc (.cells #[I J kd,I J a,I J b,I i32 v] 33)):=(K _ _).alloc (O _) _
 have l:=zk w (.cells #[I J kd,I J a,I J b,I i32 v] 33)
 have o:=h.later f
 obtain⟨R,S,T,U,-⟩:=zc l
 have W:=za l
 have i:=zd (Bel.of f k)
 have q:=zd f
 have t:=zd o
 have H:=zd h
 clear f l o h
 have G:(kd==1)=true:=by subst d;rfl
 have L:(kd==2)=false:=by subst d;rfl
 have M:(kd==3)=false:=by subst d;rfl
 have N:(kd==4)=false:=by subst d;rfl
 have P:(kd==5)=false:=by subst d;rfl
 have Q:(kd==6)=false:=by subst d;rfl
 have r:=zd (zgu (ud t) C E kd a b v A hbb hv F)
 clear d
 go_enter func13,ntmps13
 go_wp2_with(first|(go_at_call 39;refine(ud r).mono ?_;rintro e V ⟨rfl,n⟩;have s:=zd n;clear n))
 go_ret
 obtain⟨m',g,u,x,y,z⟩:=ud s
 exact⟨rfl,m',m',g,u,yn.same m' g,x,(ud i).trans y,fun _=>z,fun e=>absurd (by simpa using G) e⟩
theorem ziE{w:World}{B p:Nat}{c:Cf}{ep:Int}{m:MS}{ns:List Nm}{j:Nat}(n:vC w B p c ep m ns j)(H:c.ok)(M:c.fits)(L:xg ep)(kd a b v:Int)(G: -9223372036854775808<=a/\a<=9223372036854775807)(hbb: -9223372036854775808<=b/\b<=9223372036854775807)(hv: -2147483648<=v/\v<=2147483647)(R:j<4398046511104)(d:kd=2):
  Calls prog 13 #[.pointer (some ⟨p,0,none⟩),.agg #[I J kd,I J a,I J b,I i32 v]] w fun e w'=>e=.returned (.bool true)/\kt w w' B p c ep m ns j kd:=by
 have l:=n.size
 have f:Below w.1.size w (w.alloc (.cells #[I J kd,I J a,I J b,I i32 v] 33)):=(K _ _).alloc (O _) _
 have u:=zk w (.cells #[I J kd,I J a,I J b,I i32 v] 33)
 have y:=n.later f
 obtain⟨o0,o1,o2,o3,-⟩:=zc u
 have ol:=za u
 have h:=zd (Bel.of f l)
 have A:=zd f
 have s:=zd y
 have P:=zd n
 clear f u y n
 have S:(kd==1)=false:=by subst d;rfl
 have T:(kd==2)=true:=by subst d;rfl
 have U:(kd==3)=false:=by subst d;rfl
 have X:(kd==4)=false:=by subst d;rfl
 have Y:(kd==5)=false:=by subst d;rfl
 have Z:(kd==6)=false:=by subst d;rfl
 have g:¬kd=1:=by omega
 obtain⟨r,r0,r1,x⟩:=xT a 1000 G (by omega)
 have i:=fun W=>zd (x W)
 have Q:IntKind.i64.wrap (1+r)=1+r:=by rw[IntKind.wrap_i64];omega
 clear d x
 by_cases N:100000<m.now+(1+r)
 ·have q:=zd (zbK (ud s) (1+r) ⟨by omega,by omega⟩ N)
  go_enter func13,ntmps13
  go_wp2_with(first
   |(go_at_call 31;refine(ud (i _)).mono ?_;rintro e C ⟨rfl,t⟩;subst t)
   |(go_at_call 17;refine(ud q).mono ?_;rintro e V ⟨rfl,k⟩;have o:=zd k;clear k))
  go_ret
  have z:=(ud o)
  exact⟨rfl,m,m,ns,yn.same m ns,yn.same m ns,((ud s).later z).mono (Nat.le_succ j),(ud h).trans (Bel.of z (Nat.le_trans l (ud h).size)),fun e=>absurd e g,fun _=>rfl⟩
 ·have q:=zd (zbJ (ud s) H M (1+r) ⟨by omega,by omega⟩ (by omega) (by omega))
  go_enter func13,ntmps13
  go_wp2_with(first
   |(go_at_call 31;refine(ud (i _)).mono ?_;rintro e C ⟨rfl,t⟩;subst t)
   |(go_at_call 17;refine(ud q).mono ?_;rintro e V ⟨rfl,k⟩;have o:=zd k;clear k))
  go_ret
  obtain⟨m',D,E,F⟩:=ud o
  exact⟨rfl,m',m',ns,D,yn.same m' ns,E.mono (Nat.le_succ j),(ud h).trans F,fun e=>absurd e g,fun _=>rfl⟩
theorem ziF{w:World}{B p:Nat}{c:Cf}{ep:Int}{m:MS}{ns:List Nm}{j:Nat}(l:vC w B p c ep m ns j)(D:c.ok)(R:c.fits)(q:xg ep)(kd a b v:Int)(P: -9223372036854775808<=a/\a<=9223372036854775807)(hbb: -9223372036854775808<=b/\b<=9223372036854775807)(hv: -2147483648<=v/\v<=2147483647)(S:j<4398046511104)(d:kd=3):
  Calls prog 13 #[.pointer (some ⟨p,0,none⟩),.agg #[I J kd,I J a,I J b,I i32 v]] w fun e w'=>e=.returned (.bool true)/\kt w w' B p c ep m ns j kd:=by
 have u:=l.size
 have g:Below w.1.size w (w.alloc (.cells #[I J kd,I J a,I J b,I i32 v] 33)):=(K _ _).alloc (O _) _
 have x:=zk w (.cells #[I J kd,I J a,I J b,I i32 v] 33)
 have C:=l.later g
 obtain⟨o0,o1,o2,o3,-⟩:=zc x
 have ol:=za x
 have n:=zd (Bel.of g u)
 have F:=zd g
 have y:=zd C
 have HS:=zd l
 clear g x C l
 have k1:(kd==1)=false:=by subst d;rfl
 have k2:(kd==2)=false:=by subst d;rfl
 have k3:(kd==3)=true:=by subst d;rfl
 have k4:(kd==4)=false:=by subst d;rfl
 have k5:(kd==5)=false:=by subst d;rfl
 have k6:(kd==6)=false:=by subst d;rfl
 have i:¬kd=1:=by omega
 have Q:=D.sl
 obtain⟨r,U,Y,z⟩:=xT a c.s P (by omega)
 have o:=fun W=>zd (z W)
 obtain⟨s9,k9,t,f,T,-,E,-⟩:=ud y
 obtain⟨-,Z,-,-,-,-,-,-,k,-⟩:=f.cells
 have xl:=f.lt
 rw[t]at Z k xl
 obtain⟨ka,kc,h⟩:=zL f.krow
 rw[zF]at h
 rw[h]at k
 clear f h d z
 have H:=zd (Vz ((ud y).later (K _ _).drew) D R q r ⟨U,Y⟩ S)
 go_enter func13,ntmps13
 go_wp2_with fail
 generalize(w.alloc (.cells #[I J kd,I J a,I J b,I i32 v] 33))=X at*
 refine xh 9 (by kernel_rfl) (by kernel_rfl) ?_
 simp only[List.take_succ_cons,List.take_zero,List.drop_succ_cons,List.drop_zero]
 repeat still_step
 still_call (ud (o _))
 refine wpStill_nil ?_
 go_wp2_with(first|(go_at_call 40;refine(ud H).mono ?_;rintro e V ⟨rfl,A⟩;have G:=zd A;clear A))
 go_ret
 obtain⟨m',L,M,N,_⟩:=ud G
 exact⟨rfl,m',m',ns,L,yn.same m' ns,M,((ud n).drew).trans N,fun e=>absurd e i,fun _=>rfl⟩
theorem ziG{w:World}{B p:Nat}{c:Cf}{ep:Int}{m:MS}{ns:List Nm}{j:Nat}(h:vC w B p c ep m ns j)(C:c.ok)(D:c.fits)(k:xg ep)(kd a b v:Int)(A: -9223372036854775808<=a/\a<=9223372036854775807)(hbb: -9223372036854775808<=b/\b<=9223372036854775807)(hv: -2147483648<=v/\v<=2147483647)(F:j<4398046511104)(d:kd=4):
  Calls prog 13 #[.pointer (some ⟨p,0,none⟩),.agg #[I J kd,I J a,I J b,I i32 v]] w fun e w'=>e=.returned (.bool true)/\kt w w' B p c ep m ns j kd:=by
 have l:=h.size
 have f:Below w.1.size w (w.alloc (.cells #[I J kd,I J a,I J b,I i32 v] 33)):=(K _ _).alloc (O _) _
 have n:=zk w (.cells #[I J kd,I J a,I J b,I i32 v] 33)
 have q:=h.later f
 obtain⟨Q,R,S,T,-⟩:=zc n
 have U:=za n
 have i:=zd (Bel.of f l)
 have r:=zd f
 have u:=zd q
 have E:=zd h
 clear f n q h
 have G:(kd==1)=false:=by subst d;rfl
 have H:(kd==2)=false:=by subst d;rfl
 have L:(kd==3)=false:=by subst d;rfl
 have M:(kd==4)=true:=by subst d;rfl
 have N:(kd==5)=false:=by subst d;rfl
 have P:(kd==6)=false:=by subst d;rfl
 have g:¬kd=1:=by omega
 have s:=zd (Qf (ud u) C D k kd a b v A (by omega))
 clear d
 go_enter func13,ntmps13
 go_wp2_with(first|(go_at_call 41;refine(ud s).mono ?_;rintro e V ⟨rfl,o⟩;have t:=zd o;clear o))
 go_ret
 obtain⟨m',x,y,z⟩:=ud t
 exact⟨rfl,m',m',ns,x,yn.same m' ns,y.mono (Nat.le_succ j),(ud i).trans z,fun e=>absurd e g,fun _=>rfl⟩
theorem ziH{w:World}{B p:Nat}{c:Cf}{ep:Int}{m:MS}{ns:List Nm}{j:Nat}(h:vC w B p c ep m ns j)(C:c.ok)(D:c.fits)(k:xg ep)(kd a b v:Int)(A: -9223372036854775808<=a/\a<=9223372036854775807)(hbb: -9223372036854775808<=b/\b<=9223372036854775807)(hv: -2147483648<=v/\v<=2147483647)(F:j<4398046511104)(d:kd=5):
  Calls prog 13 #[.pointer (some ⟨p,0,none⟩),.agg #[I J kd,I J a,I J b,I i32 v]] w fun e w'=>e=.returned (.bool true)/\kt w w' B p c ep m ns j kd:=by
 have l:=h.size
 have f:Below w.1.size w (w.alloc (.cells #[I J kd,I J a,I J b,I i32 v] 33)):=(K _ _).alloc (O _) _
 have n:=zk w (.cells #[I J kd,I J a,I J b,I i32 v] 33)
 have q:=h.later f
 obtain⟨Q,R,S,T,-⟩:=zc n
 have U:=za n
 have i:=zd (Bel.of f l)
 have r:=zd f
 have u:=zd q
 have E:=zd h
 clear f n q h
 have G:(kd==1)=false:=by subst d;rfl
 have H:(kd==2)=false:=by subst d;rfl
 have L:(kd==3)=false:=by subst d;rfl
 have M:(kd==4)=false:=by subst d;rfl
 have N:(kd==5)=true:=by subst d;rfl
 have P:(kd==6)=false:=by subst d;rfl
 have g:¬kd=1:=by omega
 have s:=zd (Qf (ud u) C D k kd a b v A (by omega))
 clear d
 go_enter func13,ntmps13
 go_wp2_with(first|(go_at_call 41;refine(ud s).mono ?_;rintro e V ⟨rfl,o⟩;have t:=zd o;clear o))
 go_ret
 obtain⟨m',x,y,z⟩:=ud t
 exact⟨rfl,m',m',ns,x,yn.same m' ns,y.mono (Nat.le_succ j),(ud i).trans z,fun e=>absurd e g,fun _=>rfl⟩
theorem ziI{w:World}{B p:Nat}{c:Cf}{ep:Int}{m:MS}{ns:List Nm}{j:Nat}(z:vC w B p c ep m ns j)(L:c.ok)(hf:c.fits)(q:xg ep)(kd a b v:Int)(ha: -9223372036854775808<=a/\a<=9223372036854775807)(hbb: -9223372036854775808<=b/\b<=9223372036854775807)(hv: -2147483648<=v/\v<=2147483647)(hj:j<4398046511104)(d:kd=6):
  Calls prog 13 #[.pointer (some ⟨p,0,none⟩),.agg #[I J kd,I J a,I J b,I i32 v]] w fun e w'=>e=.returned (.bool true)/\kt w w' B p c ep m ns j kd:=by
 have Q:=z.size
 have i:Below w.1.size w (w.alloc (.cells #[I J kd,I J a,I J b,I i32 v] 33)):=(K _ _).alloc (O _) _
 have R:=zk w (.cells #[I J kd,I J a,I J b,I i32 v] 33)
 have hX:=z.later i
 obtain⟨o0,o1,o2,o3,-⟩:=zc R
 have ol:=za R
 have o:=zd (Bel.of i Q)
 have a2:=zd i
 have T:=zd hX
 have HS:=zd z
 clear i R hX z
 have k1:(kd==1)=false:=by subst d;rfl
 have k2:(kd==2)=false:=by subst d;rfl
 have k3:(kd==3)=false:=by subst d;rfl
 have k4:(kd==4)=false:=by subst d;rfl
 have k5:(kd==5)=false:=by subst d;rfl
 have k6:(kd==6)=true:=by subst d;rfl
 have k:¬kd=1:=by omega
 have a3:=L.sl
 obtain⟨r,r0,r1,Y⟩:=xT a c.s ha (by omega)
 have D:=fun W=>zd (Y W)
 obtain⟨s9,C,P,h,a5,-,a1,-⟩:=ud T
 obtain⟨-,x2,-,-,-,-,-,-,u,-⟩:=h.cells
 have xl:=h.lt
 rw[P]at x2 u xl
 obtain⟨ka,kc,l⟩:=zL h.krow
 rw[zF]at l
 rw[l]at u
 clear h l d Y
 have HT:=zd (Vz ((ud T).later (K _ _).drew) L hf q r ⟨r0,r1⟩ hj)
 go_enter func13,ntmps13
 go_wp2_with fail
 generalize(w.alloc (.cells #[I J kd,I J a,I J b,I i32 v] 33))=X at*
 refine xh 9 (by kernel_rfl) (by kernel_rfl) ?_
 simp only[List.take_succ_cons,List.take_zero,List.drop_succ_cons,List.drop_zero]
 repeat still_step
 still_call (ud (D _))
 refine wpStill_nil ?_
 go_wp2_with fail
 refine(ud HT).mono ?_
 rintro e V ⟨rfl,Z⟩
 have S:=zd Z
 clear Z
 obtain⟨m',E,y,G,H⟩:=ud S
 have F:=y
 obtain⟨s8,A,N,g,a4,-,a0,-⟩:=y
 have x:=(g.cells).2.2.2.2.2.2.2.2.1
 have yl:=g.lt
 obtain⟨kb,a6,n⟩:=zL g.krow
 rw[zF]at n
 rw[n]at x
 rw[N]at x yl
 clear g n
 by_cases f:m'.num=m.num
 ·have M:((A:Int)==(C:Int))=true:=by simp;omega
  have t:(A:Int)=C:=by omega
  clear f H
  go_wp2_with fail
  go_ret
  obtain⟨m',E,y,G,H⟩:=ud S
  exact⟨rfl,m',m',ns,E,yn.same m' ns,y,((ud o).drew).trans G,fun e=>absurd e k,fun _=>rfl⟩
 ·have M:((A:Int)==(C:Int))=false:=by simp;omega
  have t:¬(A:Int)=C:=by omega
  have HE:=zd (Qf F L hf q 4 0 0 0 (by omega) (by omega))
  clear f H
  go_wp2_with(first|(go_at_call 41;refine(ud HE).mono ?_;rintro e U ⟨rfl,hQ⟩;have HQ:=zd hQ;clear hQ))
  go_ret
  obtain⟨m2,g1,g2,g3⟩:=ud HQ
  exact⟨rfl,m',m2,ns,E,g1,g2,((ud o).drew).trans (G.trans g3),fun e=>absurd e k,fun _=>rfl⟩
theorem ziJ{w:World}{B p:Nat}{c:Cf}{ep:Int}{m:MS}{ns:List Nm}{j:Nat}(g:vC w B p c ep m ns j)(u:c.ok)(x:c.fits)(r:xg ep)(kd a b v:Int)(t: -9223372036854775808<=a/\a<=9223372036854775807)(hbb: -9223372036854775808<=b/\b<=9223372036854775807)(hv: -2147483648<=v/\v<=2147483647)(y:j<4398046511104)(i:kd<1\/6<kd):
  Calls prog 13 #[.pointer (some ⟨p,0,none⟩),.agg #[I J kd,I J a,I J b,I i32 v]] w fun e w'=>e=.returned (.bool true)/\kt w w' B p c ep m ns j kd:=by
 have k:=g.size
 have d:Below w.1.size w (w.alloc (.cells #[I J kd,I J a,I J b,I i32 v] 33)):=(K _ _).alloc (O _) _
 have l:=zk w (.cells #[I J kd,I J a,I J b,I i32 v] 33)
 have n:=g.later d
 obtain⟨G,H,L,M,-⟩:=zc l
 have N:=za l
 have h:=zd (Bel.of d k)
 have o:=zd d
 have q:=zd n
 have s:=zd g
 clear d l n g
 have z:(kd==1)=false:=by simp;omega
 have A:(kd==2)=false:=by simp;omega
 have C:(kd==3)=false:=by simp;omega
 have D:(kd==4)=false:=by simp;omega
 have E:(kd==5)=false:=by simp;omega
 have F:(kd==6)=false:=by simp;omega
 have f:¬kd=1:=by omega
 clear i
 go_enter func13,ntmps13
 go_wp2_with fail
 go_ret
 exact⟨rfl,m,m,ns,yn.same m ns,yn.same m ns,(ud q).mono (Nat.le_succ j),ud h,fun e=>absurd e f,fun _=>rfl⟩
theorem Qh{w:World}{B p:Nat}{c:Cf}{ep:Int}{m:MS}{ns:List Nm}{j:Nat}(k:vC w B p c ep m ns j)(g:c.ok)(h:c.fits)(d:xg ep)(kd a b v:Int)(f: -9223372036854775808<=a/\a<=9223372036854775807)(hbb: -9223372036854775808<=b/\b<=9223372036854775807)(hv: -2147483648<=v/\v<=2147483647)(i:j<4398046511104):
  Calls prog 13 #[.pointer (some ⟨p,0,none⟩),.agg #[I J kd,I J a,I J b,I i32 v]] w fun e w'=>e=.returned (.bool true)/\kt w w' B p c ep m ns j kd:=by
 by_cases l:kd=1
 ·exact ziD k g h d kd a b v f hbb hv i l
 by_cases n:kd=2
 ·exact ziE k g h d kd a b v f hbb hv i n
 by_cases o:kd=3
 ·exact ziF k g h d kd a b v f hbb hv i o
 by_cases q:kd=4
 ·exact ziG k g h d kd a b v f hbb hv i q
 by_cases r:kd=5
 ·exact ziH k g h d kd a b v f hbb hv i r
 by_cases s:kd=6
 ·exact ziI k g h d kd a b v f hbb hv i s
 exact ziJ k g h d kd a b v f hbb hv i (by omega)
end Go.Proofs.YtndhpgciopcncaaGreatDoor
