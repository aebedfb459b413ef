import Derived.WalkKit
namespace Go.Proofs.YtpbimdkclnekeaaGreat
def inB(x b a:Int):Bool:=decide (b<=x)&&decide (x<=a)
theorem qq(x b a:Int):inB x b a=true↔b<=x/\x<=a:=by simp[inB]
theorem Jm(x b a:Int):inB x b a=false↔¬(b<=x/\x<=a):=by
 rw[<-qq];simp
def ZZ(b:Bool):Int:=if b then 0 else 1
theorem zaF{b:Bool}(h:b=true):ZZ b=0:=by rw[h];rfl
theorem kc{b:Bool}(h:b=false):ZZ b=1:=by rw[h];rfl
def down(F:Nat->Int):Nat->Int->Bool
 |0,_=>false
 |k+1,t=>F t.toNat== -1||down F k (F t.toNat)
def xc(n:Nat)(F:Nat->Int):Nat->Int->Bool
 |0,_=>false
 |k+1,t=>t== -1||(!(decide (t< -1)||decide ((n:Int)<=t))&&xc n F k (F t.toNat))
def kR(n:Nat)(p:Nat->Bool):Bool:=(List.range n).all p
theorem yV(n:Nat)(p:Nat->Bool):kR n p=true↔∀i,i<n->p i=true:=by simp[kR]
theorem ZR(p:Nat->Bool):kR 0 p=true:=by simp[kR]
theorem ZQ(n:Nat)(p:Nat->Bool):kR (n+1) p=(kR n p&&p n):=by
 rw[Bool.eq_iff_iff];simp only[yV,Bool.and_eq_true]
 constructor
 ·intro h;exact⟨fun i c=>h i (by omega),h n (by omega)⟩
 ·rintro⟨a,b⟩ i c
  by_cases e:i=n
  ·subst e;exact b
  ·exact a i (by omega)
theorem xP(n:Nat)(p:Nat->Bool)(i:Nat)(b:i<n)(h:p i=false):kR n p=false:=by
 rw[Bool.eq_false_iff];intro a;rw[yV]at a;rw[a i b]at h;cases h
def xd(a:Int)(W:Nat->Int)(t:Int):Int:=if t= -1 then a else W t.toNat
def vS(n:Nat)(F W K:Nat->Int)(i:Nat):Bool:=inB (F i) (-1) ((n:Int)-1)&&inB (W i) 1 1000&&inB (K i) 0 1000
def zaq(n:Nat)(a:Int)(F W:Nat->Int)(i:Nat):Bool:=(W i%xd a W (F i)==0)&&down F n i
def xF(s c b a ke d:Int)(n:Nat)(F W K:Nat->Int):Bool:=
 inB s 1 4&&inB c 1 100&&inB b 0 100&&inB a 1 50&&inB ke 0 1000&&inB d 1 400&&inB n 1 4&&kR n (vS n F W K)&&kR n (zaq n a F W)
def vt(n:Nat)(F W K:Nat->Int)(i:Nat):Bool:=xc n F (n+1) i&&inB (W i) 1 1000&&inB (K i) 0 1000
def zbN(a:Int)(F W:Nat->Int)(i:Nat):Bool:=W i%xd a W (F i)==0
def zaQ(s b a d ke c:Int)(n:Nat):Bool:=
 inB s 1 4&&inB b 1 100&&inB a 0 100&&inB d 1 50&&inB ke 0 1000&&inB c 1 400&&inB n 1 4
def JT(s c b a ke d:Int)(n:Nat)(F W K:Nat->Int):Bool:=
 zaQ s c b a ke d n&&kR n (vt n F W K)&&kR n (zbN a F W)
theorem XJ(n:Nat)(F:Nat->Int)(d:∀i,i<n-> -1<=F i/\F i<n):∀(k:Nat) (t:Int),0<=t->t<n->xc n F (k+1) t=down F k t
 |0,t,g,h=>by
  have a:(t== -1)=false:=by simp;omega
  rw[xc,a];simp[xc,down]
 |k+1,t,g,h=>by
  have j:=d t.toNat (by omega)
  have f:xc n F (k+1+1) t=xc n F (k+1) (F t.toNat):=by
   have a:(t== -1)=false:=by simp;omega
   have b:decide (t< -1)=false:=by simp;omega
   have c:decide ((n:Int)<=t)=false:=by simp;omega
   rw[xc,a,b,c];simp
  rw[f,down]
  by_cases e:F t.toNat= -1
  ·simp[xc,e]
  ·rw[XJ n F d k (F t.toNat) (by omega) j.2]
   have a:(F t.toNat== -1)=false:=by simpa using e
   rw[a];simp
theorem Zp(n:Nat)(F:Nat->Int)(i:Nat)(b:i<n)(h:xc n F (n+1) i=true): -1<=F i/\F i<n:=by
 obtain⟨m,rfl⟩:∃m,n=m+1:=⟨n-1,by omega⟩
 have a:((i:Int)== -1)=false:=beq_eq_false_iff_ne.2 (by omega)
 rw[xc,a,xc]at h
 simp at h
 omega
theorem zdP(s q p t ke r:Int)(n:Nat)(F W K:Nat->Int):xF s q p t ke r n F W K=JT s q p t ke r n F W K:=by
 rw[Bool.eq_iff_iff]
 simp only[xF,JT,zaQ,Bool.and_eq_true,yV,and_assoc]
 constructor
 ·rintro⟨g,h,j,k,l,m,o,d,e⟩
  have f:∀i,i<n-> -1<=F i/\F i<n:=fun i c=>by
   have:=d i c;simp only[vS,Bool.and_eq_true,qq]at this;omega
  refine⟨g,h,j,k,l,m,o,fun i c=>?_,fun i c=>?_⟩
  ·have a:=d i c;have b:=e i c
   simp only[vS,zaq,Bool.and_eq_true]at a b
   simp only[vt,Bool.and_eq_true]
   refine⟨⟨?_,a.1.2⟩,a.2⟩
   rw[XJ n F f n i (by omega) (by omega)];exact b.2
  ·have b:=e i c
   simp only[zaq,Bool.and_eq_true]at b
   exact b.1
 ·rintro⟨g,h,j,k,l,m,o,d,e⟩
  have f:∀i,i<n-> -1<=F i/\F i<n:=fun i c=>by
   have:=d i c;simp only[vt,Bool.and_eq_true]at this;exact Zp n F i c this.1.1
  refine⟨g,h,j,k,l,m,o,fun i c=>?_,fun i c=>?_⟩
  ·have a:=d i c;have b:=f i c
   simp only[vt,Bool.and_eq_true]at a
   simp only[vS,Bool.and_eq_true,qq]
   refine⟨⟨by omega,?_⟩,?_⟩
   ·have:=a.1.2;rwa[qq]at this
   ·have:=a.2;rwa[qq]at this
  ·have a:=d i c;have b:=e i c
   simp only[vt,Bool.and_eq_true]at a
   simp only[zaq,Bool.and_eq_true]
   refine⟨b,?_⟩
   rw[<-XJ n F f n i (by omega) (by omega)];exact a.1.1
end Go.Proofs.YtpbimdkclnekeaaGreat
