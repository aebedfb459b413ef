import Derived.Test.YtndhpgciopcncaaGreatDoorUPst0
import Derived.Test.YtndhpgciopcncaaGreatDoorUCop0
open Go.RowKit.Below renaming refl → I
open Go.Value (int)
open Go.IntKind (i64)
set_option linter.unusedVariables false
set_option maxRecDepth 20000
set_option maxHeartbeats 8000000
open Go.Proofs.Tryz
namespace Go.Proofs.YtndhpgciopcncaaGreatDoor
open Go.ChangeMaps (setBlock)
open Go.RowKit Go.Maps Go.Shelf
theorem zaT{dn:Bool}{w:World}{i:Ids}{c:Cf}{ep:Int}{m:MS}(h:xz dn w i c ep m)(n:Int)(hn:n<1\/1000<n\/100000<m.now+n)(a:0<=m.now/\m.now<=100000):
  Calls prog 26 #[.pointer (some ⟨i.x,0,none⟩),int i64 n] w fun e w'=>e=.returned (int i64 5)/\Below w.1.size w w':=by
 obtain⟨-,-,-,-,-,-,-,-,o,-,-⟩:=h.cells
 have l:=h.lt
 obtain⟨j,k⟩:=a
 clear h
 by_cases b:n<1
 ·clear hn
  go_enter func26,ntmps26
  go_wp2_with fail
  go_ret
  exact⟨rfl,I _ _⟩
 ·have d:decide (n<1)=false:=by simpa using b
  by_cases f:1000<n
  ·clear hn
   go_enter func26,ntmps26
   go_wp2_with fail
   go_ret
   exact⟨rfl,I _ _⟩
  ·have g:decide (1000<n)=false:=by simpa using f
   have p:100000<m.now+n:=by omega
   clear hn
   go_enter func26,ntmps26
   go_wp2_with fail
   go_ret
   exact⟨rfl,I _ _⟩
def Qr(m':MS)(q a:JM)(now:Int)(xs:List SX):Prop:=
 (Yq (VF q.S (xT now xs)) q.st=false/\a=jk q (xT now xs))\/(Yq (VF q.S (xT now xs)) q.st=true/\∃b:List SX,b.Perm (Zk m'.L m'.Gl)/\a=zjO (jk q (xT now xs)) (xT now b))
theorem jg{w':World}{i:Ids}{c:Cf}{ep:Int}{m:MS}{q:JM}{now:Int}{xs:List SX}{e:Ending}(h:vE w' i c ep m q now xs e)(f:vw q.S (xT now xs)=false):e=.returned (int i64 13)/\zN w' i c ep m {jk q (xT now xs)with dn:=true}:=by
 rcases h with⟨_,b,d⟩|⟨a,_⟩
 ·exact⟨b,d⟩
 ·rw[f]at a;cases a
theorem kn{w':World}{i:Ids}{c:Cf}{ep:Int}{m:MS}{q:JM}{now:Int}{xs:List SX}{e:Ending}(h:vE w' i c ep m q now xs e)(k:vw q.S (xT now xs)=true):e=.returned (int i64 0)/\∃g,Qr (m.took now xs) q g now xs/\zN w' i c ep (m.took now xs) g:=by
 rcases h with⟨d,_⟩|⟨_,f,⟨a,b⟩|⟨a,l,b,j⟩⟩
 ·rw[k]at d;cases d
 ·exact⟨f,_,.inl ⟨a,rfl⟩,b⟩
 ·exact⟨f,_,.inr ⟨a,l,b,rfl⟩,j⟩
def zjw(w':World)(i:Ids)(c:Cf)(ep:Int)(m:MS)(q:JM)(n:Int)(e:Ending):Prop:=
 (vw q.S (xT (m.now+n) [])=false/\e=.returned (int i64 13)/\zN w' i c ep m {jk q (xT (m.now+n) [])with dn:=true})
 \/(vw q.S (xT (m.now+n) [])=true/\e=.returned (int i64 0)/\∃f d a b,Qr (m.took (m.now+n) []) q f (m.now+n) []/\zN w' i c ep {m with now:=m.now+n,TL:=b,QL:=a} f/\YV (m.now+n) m.TL m.QL d a/\(∀p∈a,m.now+n<p.2.til)/\qv c {m with now:=m.now+n,TL:=d,QL:=a} b)
theorem zfN(w:World)(base:Nat):vu w base (.slice none 0 0) []:=by
 unfold vu;exact World.ownsRow_nil _ _ _ _
theorem zja{w:World}{i:Ids}{c:Cf}{ep:Int}{m:MS}{q:JM}(h:zN w i c ep m q)(hc:c.ok)(n:Int)(hn:1<=n/\n<=1000)(Q:0<=m.now/\m.now+n<=100000)(hI:zgb 1000000 100000 m.TL m.QL)(hL:∀p∈m.L,inR c p.1)(P:m.L.length<=2000)(U:∀r a6,YV (m.now+n) m.TL m.QL r a6->r.length<=50000)
  (t:∀x∈Zk m.L m.Gl,okX x) (aa:m.Gl.length<=49000000) (N:Nat) (hN:N<=900000000000) (hd:DOk q.S N) (ab:0<=q.st/\q.st<=1099511627776):
  Calls prog 26 #[.pointer (some ⟨i.x,0,none⟩),int i64 n] w fun e w'=>zjw w' i c ep m q n e/\Kx i w w':=by
 obtain⟨-,-,-,-,-,-,-,-,c8,-,-⟩:=h.own.cells
 have ak:=h.lt
 obtain⟨ag,ah⟩:=hn
 obtain⟨ai,V⟩:=Q
 have ad:decide (n<1)=false:=by simp;omega
 have ae:decide (1000<n)=false:=by simp;omega
 have af:decide (100000<m.now+n)=false:=by simp;omega
 have o:=fun W (u:Below w.1.size w W)=>jO (h.later u) (m.now+n) (by unfold xh;omega) [] (by simp) t (by simp) (by omega) aa N hN hd ab 0 (.slice none 0 0) (zfN _ _)
 have ac:=zd h.dlt
 clear t hd
 cases d:vw q.S (xT (m.now+n) [])
 ·have f:=fun W (u:Below w.1.size w W)=>zd ((o W u).mono (fun e T v=>(⟨(jg v.1 d).1,(jg v.1 d).2,v.2⟩:e=.returned (int i64 13)/\zN T i c ep m {jk q (xT (m.now+n) [])with dn:=true}/\Kx i W T)))
  have l:=f w (I _ _)
  clear h o f hI hL U
  go_enter func26,ntmps26
  go_wp2_with fail
  refine(ud l).mono ?_
  rintro e T ⟨rfl,g,F⟩
  have HM:=zd g
  have HK:=zd F
  clear g F
  go_wp2_with fail
  go_ret
  exact⟨.inl ⟨d,rfl,ud HM⟩,ud HK⟩
 ·have f:=fun W (u:Below w.1.size w W)=>zd ((o W u).mono (fun e T v=>(⟨(kn v.1 d).1,(kn v.1 d).2,v.2⟩:e=.returned (int i64 0)/\(∃Y,Qr (m.took (m.now+n) []) q Y (m.now+n) []/\zN T i c ep (m.took (m.now+n) []) Y)/\Kx i W T)))
  have l:=f w (I _ _)
  clear h o f
  go_enter func26,ntmps26
  go_wp2_with fail
  refine(ud l).mono ?_
  rintro e T ⟨rfl,⟨Y,hA,J⟩,F⟩
  have g:zN T i c ep {m with now:=m.now+n} Y:=J
  obtain⟨-,-,-,-,-,-,-,-,d8,-,C⟩:=g.own.cells
  dsimp only at d8
  have X:=g.lt
  have HE:=fun W (u:Below T.1.size T W)=>zd (zaA ((g.later u).board) (m.now+n) ⟨by omega,V⟩ hI)
  have z:=HE T (I _ _)
  have j:=HE T.drew (I _ _).drew
  have y:∀k,(k=i.tb\/k=i.qb)->¬i.x=k:=fun k e e'=>by
   rcases e with e|e
   ·exact g.x_board k (.inr (.inl e)) e'.symm
   ·exact g.x_board k (.inr (.inr e)) e'.symm
  have B:Hid (¬(i.x=i.tb\/i.x=i.qb)):=fun e=>by
   rcases e with e|e
   ·exact y i.tb (.inl rfl) e
   ·exact y i.qb (.inr rfl) e
  have HM:=zd g
  have HK:=zd F
  have HA:=zd hA
  clear J g F hA HE y l
  go_wp2_with fail
  go_region_held3 (fun w'=>w'.cell? ⟨i.x,8,none⟩=some (int i64 (m.now+n))/\w'.cell? ⟨i.x,10,none⟩=some (.pointer (some ⟨i.b,0,none⟩))) (go_keep) (first
   |(go_at_call 59;(first|(with_reducible refine(ud z).mono ?_)|(with_reducible refine(ud j).mono ?_));rintro e V1 ⟨rfl,a8,a7,D,a,E,R⟩;have hK1:zo (fun k=>k=i.tb\/k=i.qb) T V1:=⟨a.os,a.tape,a.output,a.size,a.block⟩;clear a;have g8:=(zM (i:=8) hK1 (ud B) X).trans d8;have a9:=(zM (i:=10) hK1 (ud B) X).trans C;have Z:=zd D;have a0:=zd hK1;have j:=zd E;have a5:=zd R;clear D hK1 E R z))
  all_goals(
   have O:zo (vv i.b i.tb i.qb) T V1:=(ud a0).mono (fun k _ e=> .inr e)
   obtain⟨s,G⟩:=(ud HM).putBoard (ud Z) O
   have a4:=zd (YA s.own hc hL P ⟨by show 0<=m.now+n;omega,V⟩ (U _ _ (ud j)))
   have a2:=zd s
   have a1:=zd ((ud HK).trans G)
   have aj:=s.lt
   clear O s G d8 C g8 a9
   go_wp2_with(first|(go_at_call 55;refine(ud a4).mono ?_;rintro e V3 ⟨rfl,r,K,H,M⟩;have A:=zd ((ud a2).put K H (fun k e=> .inr (.inr (.inr (.inl e)))));have a3:=zd M;clear K H M))
   go_ret
   exact⟨.inr ⟨d,rfl,Y,a8,a7,r,ud HA,(ud A).1,ud j,ud a5,ud a3⟩,(ud a1).trans (ud A).2⟩)
end Go.Proofs.YtndhpgciopcncaaGreatDoor
