import Derived.WalkKit
namespace Go.Proofs.YtndhpgciopcncaaGreatDoor
def inB(x lo a:Int):Bool:=decide (lo<=x)&&decide (x<=a)
theorem jk(x lo a:Int):inB x lo a=true↔lo<=x/\x<=a:=by simp[inB]
def zmK(b:Bool):Int:=if b then 0 else 1
def down(F:Nat->Int):Nat->Int->Bool
 |0,_=>false
 |k+1,t=>F t.toNat== -1||down F k (F t.toNat)
def Yu(n:Nat)(p:Nat->Bool):Bool:=(List.range n).all p
theorem ZM(n:Nat)(p:Nat->Bool):Yu n p=true↔∀i,i<n->p i=true:=by simp[Yu]
theorem zaP(p:Nat->Bool):Yu 0 p=true:=by simp[Yu]
theorem zaO(n:Nat)(p:Nat->Bool):Yu (n+1) p=(Yu n p&&p n):=by
 rw[Bool.eq_iff_iff];simp only[ZM,Bool.and_eq_true];constructor
 ·intro h;exact⟨fun i c=>h i (by omega),h n (by omega)⟩
 ·rintro⟨a,b⟩ i c;by_cases e:i=n
  ·subst e;exact b
  ·exact a i (by omega)
theorem yV(n:Nat)(p:Nat->Bool)(i:Nat)(b:i<n)(h:p i=false):Yu n p=false:=by
 rw[Bool.eq_false_iff];intro a;rw[ZM]at a;rw[a i b]at h;cases h
def zQ(wi:Int)(W:Nat->Int)(t:Int):Int:=if t= -1 then wi else W t.toNat
def ZH(n:Nat)(F W K:Nat->Int)(i:Nat):Bool:=inB (F i) (-1) ((n:Int)-1)&&inB (W i) 1 1000&&inB (K i) 0 1000
def zgP(n:Nat)(wi:Int)(F W:Nat->Int)(i:Nat):Bool:=(W i%zQ wi W (F i)==0)&&down F n i
def qd(s le la wi ke qu:Int)(n:Nat)(F W K:Nat->Int):Bool:=
 inB s 1 4&&inB le 1 100&&inB la 0 100&&inB wi 1 50&&inB ke 0 1000&&inB qu 1 400&&inB n 1 4&&Yu n (ZH n F W K)&&Yu n (zgP n wi F W)
end Go.Proofs.YtndhpgciopcncaaGreatDoor
