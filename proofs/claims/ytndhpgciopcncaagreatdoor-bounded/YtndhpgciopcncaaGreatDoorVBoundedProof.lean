import Derived.Test.YtndhpgciopcncaaGreatDoorRows
import Derived.Test.YtndhpgciopcncaaGreatDoorVBnd0
import Derived.WalkKit
import Derived.ProofKit
import Derived.OpenShut
import Derived.ChangeOld
import Derived.Below
import Derived.SizedLaws
import Derived.Test.YtndhpgciopcncaaGreatDoorVBoundedFact
import Derived.Test.YtndhpgciopcncaaGreatDoorCards
import Derived.Test.YtndhpgciopcncaaGreatDoorTie
import Derived.Handed
import Derived.Handy
import Derived.Lay
import Derived.SevenTiedAt
open Go.Value (int)
open Go.IntKind (i64)
set_option linter.unusedVariables false
set_option maxRecDepth 100000
open Go.Proofs.Tryz
namespace Go.Proofs.YtndhpgciopcncaaGreatDoor
open Go.ChangeShapes Go.WideShapes Go.ChangeAt Go.RowKit
theorem zaA:ownKnob prog.godebug=none:=by kernel_rfl
theorem jy:laidOutB prog=true:=by kernel_rfl
theorem Yl(os:Os)(g:os.Started)(H:Type)(enc:TypeId×Value->H):
  ReturnsInHanded {} Tryz.checked os 6 .any (fun w args=>(Rows.boundedSpec.pre enc prog Tryz.f6 [] false w args/\laidMetH prog VO w)/\sizedMet enc prog Tryz.f6 (OpenSpec.ofChange Rows.boundedSpec) false w args) (Rows.boundedSpec.post enc prog Tryz.f6 false true false false):=by
 refine returnsInHanded_of_change_and (C:=Tryz.checked) (X:=fun w _=>laidMetH prog VO w) (fun _ _ _ hh h=>h.of_heap hh) zaA g (by kernel_rfl) func6
  (ChangeSpec.witness_shaped (enc:=enc) (C:=Tryz.checked) (os:=os) (X:=fun w _=>laidMetH prog VO w) false (World.laidAll prog os VO) #[.agg #[int i64 0,int i64 0,int i64 0,int i64 0,int i64 0,int i64 0,.slice none 0 0],.slice none 0 0] 8 (World.laidAll_os _ _ _)
   (World.shaped_of_ZipB (by kernel_rfl) (by kernel_rfl)) (by kernel_rfl) (by kernel_rfl) (by kernel_rfl) (Jc os _)) ?_
 intro W base args V gs F d hW a0 D u _
 have c:∀(j:Nat) t v,Tryz.f6.params[j]?=some t->args[j]?=some v->Value.okWide prog W .any base t v:=d
 have l:(DataW.weightsEach prog (Tryz.f6.params.toList++Rows.boundedSpec.plain.varTypes prog) (V++gs)).all (· <=reachBytes)=true:=D
 have J:=hW
 obtain⟨p,q,r,hV,rfl,a7,a8⟩:=hW
 have hA:DataW.TrodAll enc prog W 0 (fun _=>true) true Tryz.f6.params.toList args.toList V p:=r
 rw[params6]at hA c l
 obtain⟨v0,a9,d0,a3,p0,q0,M,rfl,rfl,Y,r0⟩:=trodAll_cons hA
 obtain⟨v1,aa,d1,a4,p1,q1,rfl,rfl,rfl,Z,r1⟩:=trodAll_cons r0
 obtain⟨rfl,rfl,rfl⟩:=trodAll_nil r1
 obtain rfl:args=#[v0,v1]:=by cases args;simp_all
 obtain⟨rfl,rfl⟩:=trodVars_none hV
 obtain⟨cs,rfl,a6⟩:=okWide_struct underlying27 (c 0 27 v0 rfl rfl)
 obtain⟨I,f,b,rfl⟩:=okWide_slice underlying28 (c 1 28 v1 rfl rfl)
 have k0:=Y
 have k1:=Z
 have S:∀x∈p0,x.block<W.1.size:=by obtain⟨m,O⟩:=k0;exact DataW.trod_lt m _ _ _ O
 have T:∀x∈p1,x.block<W.1.size:=by obtain⟨m,O⟩:=k1;exact DataW.trod_lt m _ _ _ O
 obtain⟨o,hf⟩:=Y
 obtain⟨k,B⟩:=Z
 have A:DataW.trod enc prog W 0 (fun _=>true) true o 27 cs.toList=some (d0,p0):=by simpa[Value.cells]using hf
 have i:DataW.trod enc prog W 0 (fun _=>true) true k 28 [.slice I f b]=some (d1,p1):=by simpa[Value.cells]using B
 obtain⟨s,le,la,wi,ke,qu,a,n,cap,Fr,Wd,K,a5,Q,⟨b1,b2,b3,b4,b5,b6⟩,⟨hF,L,hK⟩,E⟩:=vN A
 have z:cs=#[int i64 s,int i64 le,int i64 la,int i64 wi,int i64 ke,int i64 qu,.slice a n cap]:=by cases cs;simp_all
 have hn:n<=140737488355328:=by
  have:=E (fun y R=>by
   have:=List.all_eq_true.1 l y (DataW.weights_mem_each (j:=0) rfl rfl y R)
   simpa using this)
  simp only[reachBytes]at this
  omega
 obtain⟨a2,n2,U,G,hc2,N,P,hG⟩:=jT i (fun y R=>by
  have:=List.all_eq_true.1 l y (DataW.weights_mem_each (j:=1) rfl rfl y R)
  simpa using this)
 simp at hc2
 obtain⟨rfl,rfl,rfl⟩:=hc2
 clear r d hf A E B i
 refine(show Calls prog 6 #[.agg cs,.slice I f b] W _ from z▸VY s le la wi ke qu a n cap Fr Wd K I f b G W (Z6 u) b1 b2 b3 b4 b5 b6 Q hn hF L hK N P hG).mono fun e W' ⟨he,bel⟩=>?_
 subst he
 exact⟨_,rfl,_,_,_,[],_,[],J,trodAll_mk1 (shut_bool underlying4 _),(trodAll_cons_mk (Below.trod jy (by kernel_rfl) (of_decide_eq_true (by kernel_rfl)) k0 bel S) (trodAll_cons_mk (Below.trod jy (by kernel_rfl) (of_decide_eq_true (by kernel_rfl)) k1 bel T) trodAll_mk0)),rfl,bel.frame _,fun h=>by cases h⟩
theorem Ym:Rows.BoundedSaid:=
 OpenClaim.holds_of_wide 6 Tryz.f6 rfl rfl rfl rfl rfl rfl rfl ⟨rfl,rfl,rfl,rfl,rfl⟩ rfl rfl rfl rfl rfl (by kernel_rfl) func6 Yk
  (of_decide_eq_true (by kernel_rfl)) (by unfold Func.isWrapper;first|(rw[if_pos (by decide+kernel)];kernel_rfl)|(rw[if_neg (by decide+kernel)];exact⟨rfl,rfl⟩))
  (fun os a H enc _=>Yl os a H enc)
theorem boundedCard_holds:Rows.BoundedCardSaid:=
 Claim7.holds_tied_plain_at .later [] [.data,.data,.data,.sentinel,.sentinel,.listed,.data] true (true, "e4703e471f700b14ef4f5b2136a5b11b72e3551741bf1531b3f191eeb70a92c1") true
  Ym (fun _ h=>by cases h) (by kernel_rfl) (fun _ h=>by cases h) bounded_row_tie rfl ⟨rfl,rfl⟩ (by kernel_rfl) rfl
  (fun f fn d b=>by
   obtain rfl:f=6:=Option.some.inj ((show prog.funcNamed "mill/millkeep.Bounded" =some 6 by kernel_rfl).symm.trans d)|>.symm
   obtain rfl:fn=Tryz.f6:=(Option.some.inj (func6.symm.trans b)).symm
   exact⟨by kernel_rfl,fun j t c=>by
    rw[params6]at c
    have e:t∈[27,28]:=by simpa using Array.mem_of_getElem? c
    have a:([27,28].all fun u=>!prog.wantsStandIn u)=true:=by kernel_rfl
    exact(show prog.wantsStandIn t=false by simpa using List.all_eq_true.1 a t e)⟩)
  (by kernel_rfl)
#print axioms boundedCard_holds
end Go.Proofs.YtndhpgciopcncaaGreatDoor
