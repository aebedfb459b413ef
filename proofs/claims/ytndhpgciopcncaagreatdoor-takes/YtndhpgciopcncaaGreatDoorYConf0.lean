import Derived.WalkKit
namespace Go.Proofs.YtndhpgciopcncaaGreatDoor
def inB(x b a:Int):Bool:=decide (b<=x)&&decide (x<=a)
theorem qG(x b a:Int):inB x b a=true↔b<=x/\x<=a:=by simp[inB]
theorem zef(x b a:Int):inB x b a=false↔¬(b<=x/\x<=a):=by
 rw[<-qG];simp
def Zs(b:Bool):Int:=if b then 0 else 1
theorem JZ{b:Bool}(h:b=true):Zs b=0:=by rw[h];rfl
theorem yC{b:Bool}(h:b=false):Zs b=1:=by rw[h];rfl
def down(F:Nat->Int):Nat->Int->Bool
 |0,_=>false
 |k+1,t=>F t.toNat== -1||down F k (F t.toNat)
def zP(n:Nat)(F:Nat->Int):Nat->Int->Bool
 |0,_=>false
 |k+1,t=>t== -1||(!(decide (t< -1)||decide ((n:Int)<=t))&&zP n F k (F t.toNat))
def kq(n:Nat)(p:Nat->Bool):Bool:=(List.range n).all p
theorem yS(n:Nat)(p:Nat->Bool):kq n p=true↔∀i,i<n->p i=true:=by simp[kq]
theorem Zm(p:Nat->Bool):kq 0 p=true:=by simp[kq]
theorem Zl(n:Nat)(p:Nat->Bool):kq (n+1) p=(kq n p&&p n):=by
 rw[Bool.eq_iff_iff];simp only[yS,Bool.and_eq_true]
 constructor
 ·intro h;exact⟨fun i c=>h i (by omega),h n (by omega)⟩
 ·rintro⟨a,b⟩ i c
  by_cases e:i=n
  ·subst e;exact b
  ·exact a i (by omega)
theorem xD(n:Nat)(p:Nat->Bool)(i:Nat)(b:i<n)(h:p i=false):kq n p=false:=by
 rw[Bool.eq_false_iff];intro a;rw[yS]at a;rw[a i b]at h;cases h
def zY(a:Int)(W:Nat->Int)(t:Int):Int:=if t= -1 then a else W t.toNat
def vD(n:Nat)(F W K:Nat->Int)(i:Nat):Bool:=inB (F i) (-1) ((n:Int)-1)&&inB (W i) 1 1000&&inB (K i) 0 1000
def zaf(n:Nat)(a:Int)(F W:Nat->Int)(i:Nat):Bool:=(W i%zY a W (F i)==0)&&down F n i
def xt(s c b a ke d:Int)(n:Nat)(F W K:Nat->Int):Bool:=
 inB s 1 4&&inB c 1 100&&inB b 0 100&&inB a 1 50&&inB ke 0 1000&&inB d 1 400&&inB n 1 4&&kq n (vD n F W K)&&kq n (zaf n a F W)
def kL(n:Nat)(F W K:Nat->Int)(i:Nat):Bool:=zP n F (n+1) i&&inB (W i) 1 1000&&inB (K i) 0 1000
def zbk(a:Int)(F W:Nat->Int)(i:Nat):Bool:=W i%zY a W (F i)==0
def zag(s b a d ke c:Int)(n:Nat):Bool:=
 inB s 1 4&&inB b 1 100&&inB a 0 100&&inB d 1 50&&inB ke 0 1000&&inB c 1 400&&inB n 1 4
def Jd(s c b a ke d:Int)(n:Nat)(F W K:Nat->Int):Bool:=
 zag s c b a ke d n&&kq n (kL n F W K)&&kq n (zbk a F W)
theorem Xf(n:Nat)(F:Nat->Int)(d:∀i,i<n-> -1<=F i/\F i<n):∀(k:Nat) (t:Int),0<=t->t<n->zP n F (k+1) t=down F k t
 |0,t,g,h=>by
  have a:(t== -1)=false:=by simp;omega
  rw[zP,a];simp[zP,down]
 |k+1,t,g,h=>by
  have j:=d t.toNat (by omega)
  have f:zP n F (k+1+1) t=zP n F (k+1) (F t.toNat):=by
   have a:(t== -1)=false:=by simp;omega
   have b:decide (t< -1)=false:=by simp;omega
   have c:decide ((n:Int)<=t)=false:=by simp;omega
   rw[zP,a,b,c];simp
  rw[f,down]
  by_cases e:F t.toNat= -1
  ·simp[zP,e]
  ·rw[Xf n F d k (F t.toNat) (by omega) j.2]
   have a:(F t.toNat== -1)=false:=by simpa using e
   rw[a];simp
theorem jQ(n:Nat)(F:Nat->Int)(i:Nat)(b:i<n)(h:zP n F (n+1) i=true): -1<=F i/\F i<n:=by
 obtain⟨m,rfl⟩:∃m,n=m+1:=⟨n-1,by omega⟩
 have a:((i:Int)== -1)=false:=beq_eq_false_iff_ne.2 (by omega)
 rw[zP,a,zP]at h
 simp at h
 omega
theorem zdg(s q p t ke r:Int)(n:Nat)(F W K:Nat->Int):xt s q p t ke r n F W K=Jd s q p t ke r n F W K:=by
 rw[Bool.eq_iff_iff]
 simp only[xt,Jd,zag,Bool.and_eq_true,yS,and_assoc]
 constructor
 ·rintro⟨g,h,j,k,l,m,o,d,e⟩
  have f:∀i,i<n-> -1<=F i/\F i<n:=fun i c=>by
   have:=d i c;simp only[vD,Bool.and_eq_true,qG]at this;omega
  refine⟨g,h,j,k,l,m,o,fun i c=>?_,fun i c=>?_⟩
  ·have a:=d i c;have b:=e i c
   simp only[vD,zaf,Bool.and_eq_true]at a b
   simp only[kL,Bool.and_eq_true]
   refine⟨⟨?_,a.1.2⟩,a.2⟩
   rw[Xf n F f n i (by omega) (by omega)];exact b.2
  ·have b:=e i c
   simp only[zaf,Bool.and_eq_true]at b
   exact b.1
 ·rintro⟨g,h,j,k,l,m,o,d,e⟩
  have f:∀i,i<n-> -1<=F i/\F i<n:=fun i c=>by
   have:=d i c;simp only[kL,Bool.and_eq_true]at this;exact jQ n F i c this.1.1
  refine⟨g,h,j,k,l,m,o,fun i c=>?_,fun i c=>?_⟩
  ·have a:=d i c;have b:=f i c
   simp only[kL,Bool.and_eq_true]at a
   simp only[vD,Bool.and_eq_true,qG]
   refine⟨⟨by omega,?_⟩,?_⟩
   ·have:=a.1.2;rwa[qG]at this
   ·have:=a.2;rwa[qG]at this
  ·have a:=d i c;have b:=e i c
   simp only[kL,Bool.and_eq_true]at a
   simp only[zaf,Bool.and_eq_true]
   refine⟨b,?_⟩
   rw[<-Xf n F f n i (by omega) (by omega)];exact a.1.1
end Go.Proofs.YtndhpgciopcncaaGreatDoor
