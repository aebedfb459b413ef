import Derived.Test.YtndhpgciopcncaaGreatDoorYRefU
import Derived.Test.YtndhpgciopcncaaGreatDoorYOrd3
import Derived.Test.YtndhpgciopcncaaGreatDoorYMod2
import Derived.Test.YtndhpgciopcncaaGreatDoorYMlz5
open Go.Value renaming int → I
open Go.IntKind renaming i64 → J
open Option renaming none → K
open Option renaming some → O
open Go.IntKind (i32)
set_option linter.unusedVariables false
set_option maxRecDepth 8000
set_option maxHeartbeats 8000000
namespace Go.Proofs.YtndhpgciopcncaaGreatDoor
open Go.RowKit Go.Maps Go.Shelf
def kM(QL:List (Tok×Lse))(x:Tsk):Tk:=⟨x.kd,x.s,x.si,x.tc,x.rest,(XR QL x).1.ep,(XR QL x).1.num,(XR QL x).2.1,(XR QL x).2.2⟩
def zdA(k:Tk):Tsk:=⟨decide (k.kind=1),k.s,k.si,k.tc,k.rest⟩
theorem vE(QL:List (Tok×Lse))(x:Tsk):zdA (kM QL x)=x:=by
 obtain⟨rl,s,a,b,d⟩:=x
 unfold zdA kM
 cases rl<;>rfl
def xp(TL:List (Jk×Tsk))(QL:List (Tok×Lse))(l:List Tk):Prop:=∃ts:List Tsk,ts.Perm (TL.map (·.2))/\ts.Pairwise (fun a b=>¬zdT b a<0)/\l=ts.map (kM QL)
theorem xp.mem{TL:List (Jk×Tsk)}{QL:List (Tok×Lse)}{l:List Tk}(h:xp TL QL l)(k:Tk):k∈l↔∃p∈TL,k=kM QL p.2:=by
 obtain⟨ts,b,-,rfl⟩:=h
 rw[List.mem_map]
 constructor
 ·rintro⟨x,c,rfl⟩
  obtain⟨p,a,rfl⟩:=List.mem_map.1 (b.mem_iff.1 c)
  exact⟨p,a,rfl⟩
 ·rintro⟨p,a,rfl⟩
  exact⟨p.2,b.mem_iff.2 (List.mem_map.2 ⟨p,a,rfl⟩),rfl⟩
section
variable {c:Cf} {ep:Int} {m:MS} {r:RM}
end
theorem JQ{w:World}{wb A x d r:Nat}{c:Cf}{ct mv td:Value}{ep:Int}(Q:w.1[A]?=O (zD x d c ct mv td ep))(G:w.ownsRow 0 138 1 mv 1 [.pointer (O ⟨r,0,K⟩)])(o:Ops){now U T A1 A2 A3 A4:Int}
  (a8:∀V,Below w.1.size w V->Calls Tryz.prog 15 #[.pointer (O ⟨x,0,K⟩)] V fun e V'=>e=.returned (.agg #[I J now,I J U,I J T,I J ep,I J A1,I J A2,I J A3,I J A4])/\Below V.1.size V V')
  (aa:∀V,Below w.1.size w V->Calls Tryz.prog 145 #[.pointer (O ⟨r,0,K⟩)] V fun e V'=>e=.returned (.agg #[I J now,I J U,I J T,I J ep,I J A1,I J A2,I J A3,I J A4])/\Below V.1.size V V'):
  Calls Tryz.prog 81 #[.pointer (O ⟨wb,0,K⟩),.pointer (O ⟨A,0,K⟩),.agg #[I J 5,I J o.on,I J o.a,I J o.b,I J o.c,I i32 o.v,I J o.te,I J o.tn,I J o.fs,I J o.fe,I J o.fb,I J o.fw,I J o.fk,I J o.fq,.slice o.fa o.fn o.fc]] w fun e w'=>e=.returned (.bool true)/\∃(Z:World) (g cap:Nat),w'=Z.setCell ⟨A,9,K⟩ (.slice (O ⟨g,0,K⟩) 1 cap)/\Below w.1.size w Z/\Z.ownsRow 0 138 1 (.slice (O ⟨g,0,K⟩) 1 cap) 1 [.pointer (O ⟨r,0,K⟩)]/\w.1.size<=g:=by
 have a0:=zb Q
 obtain⟨y0,y1,y2,D,yz⟩:=Ys w (.cells #[I J 5,I J o.on,I J o.a,I J o.b,I J o.c,I i32 o.v,I J o.te,I J o.tn,I J o.fs,I J o.fe,I J o.fb,I J o.fw,I J o.fk,I J o.fq,.slice o.fa o.fn o.fc] 82) (.cells #[I J 0,I J 0,I i32 0,I i32 0] 115) (.cells #[I J 0,I J 0,I J 0,I J 0,I J 0,I J 0,I J 0,I J 0] 37)
 have a9:=zd (a8 _ D)
 have ad:=fun(V:World) (hb:Below w.1.size w V)=>zd (aa V hb)
 obtain⟨mb,aE,ak,_,H⟩:=G.form (by omega)
 have aq:Hid (w.cell? ⟨mb,0,K⟩=O (.pointer (O ⟨r,0,K⟩))):=by
  have:=G
  rw[ak]at this
  show _=_
  rw[this.cellAt 0 (by omega)];rfl
 have p0:(((w.alloc (.cells #[I J 5,I J o.on,I J o.a,I J o.b,I J o.c,I i32 o.v,I J o.te,I J o.tn,I J o.fs,I J o.fe,I J o.fb,I J o.fw,I J o.fk,I J o.fq,.slice o.fa o.fn o.fc] 82)).alloc (.cells #[I J 0,I J 0,I i32 0,I i32 0] 115)).alloc (.cells #[I J 0,I J 0,I J 0,I J 0,I J 0,I J 0,I J 0,I J 0] 37)).cell? ⟨A,0,K⟩=O (.pointer (O ⟨x,0,K⟩)):=by have t:=(D.block A a0).trans Q;unfold zD at t;rw[xd t];rfl
 have a5:=zd Q
 go_enter Tryz.func81,Tryz.ntmps81
 have Y0:=zd y0
 have Y2:=zd y2
 have a4:=zd D
 have YZ:=zd yz
 clear y0 y1 y2 D yz a8 aa
 go_wp2_with fail
 generalize(((w.alloc (.cells #[I J 5,I J o.on,I J o.a,I J o.b,I J o.c,I i32 o.v,I J o.te,I J o.tn,I J o.fs,I J o.fe,I J o.fb,I J o.fw,I J o.fk,I J o.fq,.slice o.fa o.fn o.fc] 82)).alloc (.cells #[I J 0,I J 0,I i32 0,I i32 0] 115)).alloc (.cells #[I J 0,I J 0,I J 0,I J 0,I J 0,I J 0,I J 0,I J 0] 37))=X at*
 refine(ud a9).mono ?_
 rintro e V ⟨rfl,C⟩
 have aH:X.1.size=w.1.size+3:=ud YZ
 have z:=(C.block (w.1.size+2) (by omega)).trans (ud Y2)
 have W:=(C.block w.1.size (by omega)).trans (ud Y0)
 obtain⟨z0,z1,z2,z3,z4,z5,z6,z7,-⟩:=zc z
 have zf:=fun j=>zH z j
 obtain⟨v0,-⟩:=zc W
 have am:=zhi z (I J now) (I J U) (I J T) (I J ep) (I J A1) (I J A2) (I J A3) (I J A4)
 have an:=(ud a4).trans (C.mono (ud a4).size)
 have R:zk (fun k=>k=w.1.size+2) V ((((((((V.setCell ⟨w.1.size+2,0,K⟩ (I J now)).setCell ⟨w.1.size+2,1,K⟩ (I J U)).setCell ⟨w.1.size+2,2,K⟩ (I J T)).setCell ⟨w.1.size+2,3,K⟩ (I J ep)).setCell ⟨w.1.size+2,4,K⟩ (I J A1)).setCell ⟨w.1.size+2,5,K⟩ (I J A2)).setCell ⟨w.1.size+2,6,K⟩ (I J A3)).setCell ⟨w.1.size+2,7,K⟩ (I J A4)):=zq (i:=7) (zq (i:=6) (zq (i:=5) (zq (i:=4) (zq (i:=3) (zq (i:=2) (zq (i:=1) (zq (i:=0) (zk.refl _ _) rfl) rfl) rfl) rfl) rfl) rfl) rfl) rfl
 have aG:w.1.size+2<V.1.size:=zb z
 have az:w.1.size<V.1.size:=by omega
 have a7:=zd (R.heap W (by omega))
 have y:Below w.1.size w ((((((((V.setCell ⟨w.1.size+2,0,K⟩ (I J now)).setCell ⟨w.1.size+2,1,K⟩ (I J U)).setCell ⟨w.1.size+2,2,K⟩ (I J T)).setCell ⟨w.1.size+2,3,K⟩ (I J ep)).setCell ⟨w.1.size+2,4,K⟩ (I J A1)).setCell ⟨w.1.size+2,5,K⟩ (I J A2)).setCell ⟨w.1.size+2,6,K⟩ (I J A3)).setCell ⟨w.1.size+2,7,K⟩ (I J A4)):=an.trans (R.below (Nat.le_of_lt az) (fun k hk=>by omega))
 have ag:=zd (JA (w:=((((((((V.setCell ⟨w.1.size+2,0,K⟩ (I J now)).setCell ⟨w.1.size+2,1,K⟩ (I J U)).setCell ⟨w.1.size+2,2,K⟩ (I J T)).setCell ⟨w.1.size+2,3,K⟩ (I J ep)).setCell ⟨w.1.size+2,4,K⟩ (I J A1)).setCell ⟨w.1.size+2,5,K⟩ (I J A2)).setCell ⟨w.1.size+2,6,K⟩ (I J A3)).setCell ⟨w.1.size+2,7,K⟩ (I J A4))) (by rw[<-ak];exact(y.block A a0).trans (ud a5)) ((y.cell (p:=⟨mb,0,K⟩) H).trans (ud aq)) (Nat.lt_of_lt_of_le H y.size))
 have af:=zd am
 have ah:=zd y
 have aC:¬w.1.size=w.1.size+2:=by omega
 clear C z W am R y an a9 p0
 go_wp2_with fail
 generalize((((((((V.setCell ⟨w.1.size+2,0,K⟩ (I J now)).setCell ⟨w.1.size+2,1,K⟩ (I J U)).setCell ⟨w.1.size+2,2,K⟩ (I J T)).setCell ⟨w.1.size+2,3,K⟩ (I J ep)).setCell ⟨w.1.size+2,4,K⟩ (I J A1)).setCell ⟨w.1.size+2,5,K⟩ (I J A2)).setCell ⟨w.1.size+2,6,K⟩ (I J A3)).setCell ⟨w.1.size+2,7,K⟩ (I J A4))=X8 at*
 refine(ud ag).mono ?_
 rintro e W1 ⟨g1,aA,rfl,f,B⟩
 have S:=(B.block w.1.size (zb (ud a7))).trans (ud a7)
 have a2:=(ud ah).trans (B.mono (ud ah).size)
 obtain⟨q0,-⟩:=zc S
 have g0:W1.cell? ⟨g1,0,K⟩=O (.pointer (O ⟨r,0,K⟩)):=by rw[f.cellAt 0 (by omega)];rfl
 have ab:=ad W1 a2
 have ae:=zd ((B.block (w.1.size+2) (zb (ud af))).trans (ud af))
 have a6:=zd S
 have M:=zd a2
 have ac:=zd f
 clear S a2 f B z0 z1 z2 z3 z4 z5 z6 z7 zf v0 ag ad
 go_wp2_with fail
 refine wp_loop_rounds 2 ?_
 rw[rounds_succ]
 go_wp2_with fail
 refine(ud ab).mono ?_
 rintro e U1 ⟨rfl,q⟩
 have a1:=(q.block (w.1.size+2) (zb (ud ae))).trans (ud ae)
 obtain⟨s0,s1,s2,s3,s4,s5,s6,s7,-⟩:=zc a1
 have aj:g1<W1.1.size:=vY (ud ac) g1 rfl
 have g2:U1.cell? ⟨g1,0,K⟩=O (.pointer (O ⟨r,0,K⟩)):=(q.cell (p:=⟨g1,0,K⟩) aj).trans g0
 have aJ:=zb a1
 have aI:g1<U1.1.size:=Nat.lt_of_lt_of_le aj q.size
 have aw:0<1:=by decide
 have ax:0+1<=maxLen:=by simp[maxLen]
 have ay:(0+1)*8<=140737488355328:=by omega
 have L:=zd q
 clear a1 q ab
 go_wp2_with(first|(at_builtin;refine zJ rfl _ _ 135 rfl 0 138 _ 1 8 Tryz.underlying135 Tryz.infoRefP rfl (by decide) (.slice K 0 0) 0 [] rfl (World.ownsRow_nil _ _ _ _) ⟨U1.1.size+1,0,K⟩ 1 1 [.pointer (O ⟨r,0,K⟩)] rfl rfl (World.news_of_block (cs:=#[.pointer (O ⟨r,0,K⟩)]) (heap_second U1 _ _)) (by intro u hu;simp at hu;subst hu;rfl) aw ax ay (Nat.zero_le _) ?_;intro g ai N s Y l E aB;have ar:=zd s;have ap:=zd l;have ao:=zd E;clear s Y l E)|go_in)
 have P:Below U1.1.size U1 ((U1.alloc (.cells #[I J now,I J U,I J T,I J ep,I J A1,I J A2,I J A3,I J A4] 37)).alloc (.cells #[.pointer (O ⟨r,0,K⟩)] 138)):=(box2 U1 _ _).2.2.1
 have F:Below U1.1.size U1 N:=P.grown (show((U1.alloc (.cells #[I J now,I J U,I J T,I J ep,I J A1,I J A2,I J A3,I J A4] 37)).alloc (.cells #[.pointer (O ⟨r,0,K⟩)] 138)).grownBy N K from ud ap) P.size (fun k e=>by cases e)
 have n:Below W1.1.size W1 N:=(ud L).trans (F.mono (ud L).size)
 have a3:Below w.1.size w N:=(ud M).trans (n.mono (ud M).size)
 have m:=(a3.block A a0).trans (ud a5)
 have al:=(n.block w.1.size (zb (ud a6))).trans (ud a6)
 have k9:N.cell? ⟨A,9,K⟩=O mv:=by have t:=m;unfold zD at t;rw[xd t];rfl
 have aK:N.cell? ⟨A,13,K⟩=O (.bool false):=by have t:=m;unfold zD at t;rw[xd t];rfl
 have aL:∀j,N.frozen? ⟨A,j,K⟩=false:=fun j=>by have t:=m;unfold zD at t;exact zH t j
 obtain⟨k0,-⟩:=zc al
 have aD:=zb m
 have aF:=zd m
 have au:=zd a3
 clear P F n a3 m al s0 s1 s2 s3 s4 s5 s6 s7 g0 g2 q0
 rw[rounds_succ]
 go_wp2_with fail
 go_ret
 have av:w.1.size<=g:=by
  rcases ud ao with h|h
  ·cases h
  ·rw[h]
   have z1:=(ud L).size;have z2:=(ud M).size;have z3:=(box2 U1 (.cells #[I J now,I J U,I J T,I J ep,I J A1,I J A2,I J A3,I J A4] 37) (.cells #[.pointer (O ⟨r,0,K⟩)] 138)).2.2.2;omega
 exact⟨rfl,_,g,ai,rfl,ud au,ud ar,av⟩
theorem KF{QL:List (Tok×Lse)}{x:Tsk}{q:Tok×Lse}(h:QL.find? (fun p=>decide (p.2.job=x.key))=O q):q.2.job=x.key:=by
 have:=List.find?_some h
 exact of_decide_eq_true this
theorem Zy{QL:List (Tok×Lse)}(g:(QL.map (fun q=>q.2.job)).Nodup){q:Tok×Lse}(c:q∈QL){x:Tsk}(e:q.2.job=x.key):XR QL x=(q.1,q.2.slot,q.2.til):=by
 unfold XR
 cases a:QL.find? (fun p=>decide (p.2.job=x.key))with
 |none=>exact absurd (decide_eq_true e) (List.find?_eq_none.1 a q c)
 |some b=>
  have d:=List.mem_of_find?_eq_some a
  have f:b.2.job=x.key:=KF a
  have:b=q:=kO g b d q c (f.trans e.symm)
  subst this
  rfl
theorem vU{QL:List (Tok×Lse)}{x:Tsk}(h:∀q∈QL,q.2.job≠x.key):XR QL x=(⟨0,0⟩,-1,0):=by
 unfold XR
 cases a:QL.find? (fun p=>decide (p.2.job=x.key))with
 |none=>rfl
 |some q=>exact absurd (KF a) (h q (List.mem_of_find?_eq_some a))
theorem Xc(QL:List (Tok×Lse))(x:Tsk):(∃q∈QL,q.2.job=x.key/\XR QL x=(q.1,q.2.slot,q.2.til))\/((∀q∈QL,q.2.job≠x.key)/\XR QL x=(⟨0,0⟩,-1,0)):=by
 unfold XR
 cases a:QL.find? (fun p=>decide (p.2.job=x.key))with
 |none=>exact .inr ⟨fun q b e=>List.find?_eq_none.1 a q b (decide_eq_true e),rfl⟩
 |some q=>exact .inl ⟨q,List.mem_of_find?_eq_some a,KF a,rfl⟩
section
variable {c:Cf} {ep:Int} {m:MS} {r:RM}
theorem MOk.leased(a:MOk c ep m){q:Tok×Lse}(e:q∈m.QL):∃p∈m.TL,p.2.key=q.2.job/\XR m.QL p.2=(q.1,q.2.slot,q.2.til):=by
 obtain⟨x,f,-⟩:=(a.leas q e).job
 have d:=zA f
 have b:=(a.tk _ d).key
 exact⟨_,d,b.symm,Zy a.jobs e b⟩
theorem zbr(k:∀q∈m.QL,0<=q.2.slot)(j:(m.QL.map (fun q=>q.2.job)).Nodup)(x:Tsk)(e n:Int):(kM m.QL x).holds e n=true↔∃q∈m.QL,q.1=⟨e,n⟩/\q.2.job=x.key:=by
 unfold Tk.holds kM
 simp only[Bool.and_eq_true,decide_eq_true_eq]
 rcases Xc m.QL x with⟨q,i,g,f⟩|⟨hn,f⟩
 ·rw[f]
  simp only
  constructor
  ·rintro⟨-,c,b⟩
   refine⟨q,i,?_,g⟩
   obtain⟨⟨_,_⟩,_⟩:=q
   simp only at c b ⊢
   rw[c,b]
  ·rintro⟨d,a,c,b⟩
   have:d=q:=kO j d a q i (b.trans g.symm)
   subst this
   exact⟨k d a,by rw[c],by rw[c]⟩
 ·rw[f]
  simp only
  constructor
  ·rintro⟨h,-⟩;omega
  ·rintro⟨d,a,-,b⟩;exact absurd b (hn d a)
theorem Xe(a:MOk c ep m)(v:xp m.TL m.QL r.tk)(u:∀q∈m.QL,0<=q.2.slot)(e n:Int){g:Lse}(h:zS m.QL ⟨e,n⟩=O g){x:Tsk}(w:zS m.TL g.job=O x):∃j,r.tk.findIdx? (Tk.holds e n)=O j/\r.tk[j]?=O (kM m.QL x):=by
 have E:=zA h
 have t:=zA w
 have D:=(a.tk _ t).key
 have C:(kM m.QL x).holds e n=true:=(zbr u a.jobs x e n).2 ⟨_,E,rfl,D⟩
 cases p:r.tk.findIdx? (Tk.holds e n)with
 |none=>
  have:=List.findIdx?_eq_none_iff.1 p _ ((v.mem _).2 ⟨_,t,rfl⟩)
  rw[C]at this;cases this
 |some j=>
  obtain⟨s,o,-⟩:=List.findIdx?_eq_some_iff_getElem.1 p
  refine⟨j,rfl,?_⟩
  obtain⟨d,b,l⟩:=(v.mem _).1 (List.getElem_mem s)
  rw[l]at o
  obtain⟨y,k,z,A⟩:=(zbr u a.jobs d.2 e n).1 o
  have f:zS m.QL y.1=O y.2:=xu a.nq k
  rw[z,h]at f
  injection f with f
  have B:d.1=g.job:=by rw[(a.tk d b).key,<-A,f]
  have i:zS m.TL d.1=O d.2:=xu a.nt b
  rw[B,w]at i
  injection i with i
  rw[List.getElem?_eq_getElem s,l,i]
end
theorem Xd{QL QL':List (Tok×Lse)}(d:(QL.map (fun q=>q.2.job)).Nodup)(c:(QL'.map (fun q=>q.2.job)).Nodup){x:Tsk}(h:∀q,q.2.job=x.key->(q∈QL↔q∈QL')):XR QL x=XR QL' x:=by
 rcases Xc QL x with⟨q,b,a,e⟩|⟨hn,e⟩
 ·rw[e,Zy c ((h q a).1 b) a]
 ·rw[e,vU (fun q b a=>hn q ((h q a).2 b) a)]
theorem vq{QL QL':List (Tok×Lse)}{x:Tsk}(h:XR QL x=XR QL' x):kM QL x=kM QL' x:=by
 unfold kM;rw[h]
theorem zhw{QL:List (Tok×Lse)}{x y:Tsk}(h:kM QL x=kM QL y):x=y:=by
 have:=congrArg zdA h
 rwa[vE,vE]at this
theorem Xv{ts:List Tsk}(g:ts.Nodup){QL QL':List (Tok×Lse)}{j:Nat}{x x':Tsk}(a:(ts.map (kM QL))[j]?=O (kM QL x))(f:Tk->Tk)(n:f (kM QL x)=kM QL' x')(p:∀y∈ts,y≠x->kM QL y=kM QL' y):ts[j]?=O x/\(ts.map (kM QL)).modify j f=(ts.set j x').map (kM QL'):=by
 have k:ts[j]?=O x:=by
  rw[List.getElem?_map]at a
  cases h:ts[j]? with
  |none=>rw[h]at a;cases a
  |some y=>rw[h]at a;injection a with a;rw[zhw a]
 refine⟨k,?_⟩
 obtain⟨c,d⟩:=List.getElem?_eq_some_iff.1 k
 apply List.ext_getElem?
 intro i
 rw[List.getElem?_modify,List.getElem?_map,List.getElem?_map,List.getElem?_set]
 by_cases e:j=i
 ·subst e
  rw[k]
  simp[c,n]
 ·rw[if_neg e]
  cases m:ts[i]? with
  |none=>simp[e]
  |some y=>
   have l:y≠x:=fun h=>by
    subst h
    obtain⟨o,b⟩:=List.getElem?_eq_some_iff.1 m
    exact e ((List.getElem_inj g).1 (d.trans b.symm))
   simp[e,p y (List.mem_of_getElem? m) l]
theorem kP{α β:Type}{f:α->β}:∀{l:List α},(l.map f).Nodup->l.Nodup
 |[],_=>List.nodup_nil
 |a::l,h=>by
  rw[List.map_cons,List.nodup_cons]at h
  exact List.nodup_cons.2 ⟨fun b=>h.1 (List.mem_map.2 ⟨a,b,rfl⟩),kP h.2⟩
theorem xp.nodup{c:Cf}{ep:Int}{m:MS}(b:MOk c ep m){ts:List Tsk}(a:ts.Perm (m.TL.map (·.2))):ts.Nodup:=by
 rw[a.nodup_iff]
 have d:((m.TL.map (·.2)).map Tsk.key).Nodup:=by
  rw[List.map_map]
  have e:m.TL.map (Tsk.key∘fun p:Jk×Tsk=>p.2)=zo m.TL:=by
   unfold zo
   apply List.map_congr_left
   intro p a
   exact(b.tk p a).key.symm
  rw[e];exact b.nt
 exact kP d
theorem xp.taken{c:Cf}{ep:Int}{m:MS}{l:List Tk}(b:MOk c ep m)(h:xp m.TL m.QL l){QL':List (Tok×Lse)}(u:(QL'.map (fun q=>q.2.job)).Nodup){t:Tok}{p:Jk×Tsk}(v:p∈m.TL){slot til:Int}(hn:∀q∈m.QL,q.2.job≠p.2.key)(w:∀q,q∈QL'↔q=(t,⟨p.2.kd,p.2.s,slot,til⟩)\/q∈m.QL){j:Nat}(B:l[j]?=O (kM m.QL p.2)):xp m.TL QL' (l.modify j (Tk.leased t.ep t.num slot til)):=by
 obtain⟨ts,a,D,rfl⟩:=h
 have d:(⟨p.2.kd,p.2.s,slot,til⟩:Lse).job=p.2.key:=rfl
 have o:XR QL' p.2=(t,slot,til):=Zy u (q:=(t,⟨p.2.kd,p.2.s,slot,til⟩)) ((w _).2 (.inl rfl)) d
 obtain⟨E,A⟩:=Xv (QL':=QL') (x':=p.2) (xp.nodup b a) B (Tk.leased t.ep t.num slot til) (by unfold Tk.leased kM;rw[o]) (fun y F r=>vq (Xd b.jobs u (fun q C=>by
  rw[w]
  constructor
  ·exact .inr
  ·rintro(rfl|h)
   ·exfalso
    obtain⟨i,e,rfl⟩:=List.mem_map.1 (a.mem_iff.1 F)
    have z:i.1=p.1:=by rw[(b.tk i e).key,(b.tk p v).key];exact C.symm
    have x:zS m.TL p.1=O p.2:=xu b.nt v
    have g:zS m.TL i.1=O i.2:=xu b.nt e
    rw[z,x]at g
    injection g with g
    exact r g.symm
   ·exact h)))
 rw[A]
 obtain⟨k,n⟩:=List.getElem?_eq_some_iff.1 E
 have f:ts.set j p.2=ts:=by rw[<-n];exact List.set_getElem_self k
 rw[f]
 exact⟨ts,a,D,rfl⟩
def Vk(x x' z:Tsk):Tsk:=if z.key=x.key then x' else z
theorem zbZ{x x':Tsk}(h:x'.kd=x.kd/\x'.s=x.s)(z:Tsk):(Vk x x' z).kd=z.kd/\(Vk x x' z).s=z.s:=by
 unfold Vk
 split
 ·rename_i e
  unfold Tsk.key at e
  injection e with a b
  exact⟨h.1.trans a.symm,h.2.trans b.symm⟩
 ·exact⟨rfl,rfl⟩
theorem zhs{ts:List Tsk}(f:(ts.map Tsk.key).Nodup){j:Nat}{x x':Tsk}(k:ts[j]?=O x):ts.set j x'=ts.map (Vk x x'):=by
 obtain⟨a,d⟩:=List.getElem?_eq_some_iff.1 k
 apply List.ext_getElem?
 intro i
 rw[List.getElem?_set,List.getElem?_map]
 by_cases e:j=i
 ·subst e
  rw[k]
  simp[a,Vk]
 ·rw[if_neg e]
  cases m:ts[i]? with
  |none=>rfl
  |some y=>
   have g:¬y.key=x.key:=fun h=>by
    obtain⟨b,c⟩:=List.getElem?_eq_some_iff.1 m
    have l:(ts.map Tsk.key)[j]'(by simpa using a)=(ts.map Tsk.key)[i]'(by simpa using b):=by simp[d,c,h]
    exact e ((List.getElem_inj f).1 l)
   simp[Vk,g]
theorem xp.failed{c:Cf}{ep:Int}{m:MS}{l:List Tk}(g:MOk c ep m)(h:xp m.TL m.QL l){k:Jk}{x x':Tsk}(N:zS m.TL k=O x)(i:x'.kd=x.kd/\x'.s=x.s){QL':List (Tok×Lse)}(D:(QL'.map (fun q=>q.2.job)).Nodup)(L:∀q,q∈QL'↔q∈m.QL/\q.2.job≠x.key)(f:Tk->Tk)(F:f (kM m.QL x)=kM QL' x'){j:Nat}(G:l[j]?=O (kM m.QL x)):xp (qI m.TL k x') QL' (l.modify j f):=by
 obtain⟨ts,d,M,rfl⟩:=h
 have r:=zA N
 have o:k=x.key:=(g.tk _ r).key
 have n:(ts.map Tsk.key).Nodup:=by
  have C:((m.TL.map (·.2)).map Tsk.key).Nodup:=by
   rw[List.map_map]
   have e:m.TL.map (Tsk.key∘fun p:Jk×Tsk=>p.2)=zo m.TL:=by
    unfold zo
    apply List.map_congr_left
    intro p r
    exact(g.tk p r).key.symm
   rw[e];exact g.nt
  exact((d.map Tsk.key).nodup_iff).2 C
 obtain⟨z,E⟩:=Xv (QL':=QL') (x':=x') (xp.nodup g d) G f F (fun y P v=>vq (Xd g.jobs D (fun q H=>by
  rw[L]
  constructor
  ·refine fun h=>⟨h,fun e=>?_⟩
   apply v
   exact kO n y P x (d.mem_iff.2 (List.mem_map.2 ⟨_,r,rfl⟩)) (H.symm.trans e)
  ·exact fun h=>h.1)))
 rw[E,zhs n z]
 refine⟨ts.map (Vk x x'),?_,?_,rfl⟩
 ·have e:(qI m.TL k x').map (·.2)=(m.TL.map (·.2)).map (Vk x x'):=by
   unfold qI
   have u:k∈zo m.TL:=List.mem_map.2 ⟨_,r,rfl⟩
   rw[if_pos u,List.map_map,List.map_map]
   apply List.map_congr_left
   intro p w
   have t:=(g.tk p w).key
   simp only[Function.comp,Vk]
   by_cases e:p.1=k
   ·rw[if_pos e,if_pos (by rw[<-t,e,o])]
   ·rw[if_neg e,if_neg (fun h=>e (by rw[t,h,o]))]
  rw[e]
  exact d.map _
 ·rw[List.pairwise_map]
  refine M.imp (fun{a b} h=>?_)
  have A:=zbZ i a
  have B:=zbZ i b
  rw[Qe]at h ⊢
  rw[A.1,A.2,B.1,B.2]
  exact h
theorem zea{c:Cf}{ep:Int}{m:MS}{r:RM}(d:MOk c ep m)(s:xp m.TL m.QL r.tk)(hn:r.now=m.now)(y:∀q∈m.QL,0<=q.2.slot)(e n:Int){g:Lse}(k:zS m.QL ⟨e,n⟩=O g){x:Tsk}(p:zS m.TL g.job=O x):
  (r.fail e n).2=0/\(r.fail e n).1={r with tk:=(r.fail e n).1.tk}/\xp (qI m.TL g.job (x.failed m.now)) (xn m.QL ⟨e,n⟩) (r.fail e n).1.tk:=by
 obtain⟨j,t,u⟩:=Xe d s y e n k p
 have l:g.job=x.key:=(d.tk _ (zA p)).key
 have v:r.fail e n=({r with tk:=r.tk.modify j (Tk.fail r.now)},0):=by unfold RM.fail;rw[t]
 rw[v]
 refine⟨rfl,rfl,?_⟩
 have h:=zA k
 refine xp.failed (x':=x.failed m.now) (QL':=xn m.QL ⟨e,n⟩) d s p ⟨rfl,rfl⟩ (ju d.jobs _) (fun q=>?_) (Tk.fail r.now) ?_ u
 ·rw[zL]
  constructor
  ·rintro⟨a,b⟩
   exact⟨a,fun f=>vV d.jobs h (zL.2 ⟨a,b⟩) (f.trans l.symm)⟩
  ·rintro⟨a,b⟩
   refine⟨a,fun f=>b ?_⟩
   have i:zS m.QL q.1=O q.2:=xu d.nq a
   rw[f,k]at i
   injection i with i
   rw[<-i,l]
 ·have o:XR (xn m.QL ⟨e,n⟩) (x.failed m.now)=(⟨0,0⟩,-1,0):=vU (fun q w f=>vV d.jobs h w (f.trans l.symm))
  rw[hn]
  unfold Tk.fail kM
  rw[o]
  rfl
theorem QM(a b:Tk):xW a b=true↔(a.kind<b.kind\/a.kind=b.kind/\(a.s.t<b.s.t\/a.s.t=b.s.t/\(a.s.se<b.s.se\/a.s.se=b.s.se/\a.s.wn<b.s.wn))):=by
 unfold xW
 repeat' split
 all_goals(simp only[decide_eq_true_eq];omega)
theorem QN(lt:Tk->Tk->Bool)(x y:Tk):∀l:List Tk,y∈yl lt x l↔y=x\/y∈l
 |[]=>by simp[yl]
 |z::l=>by
  unfold yl
  split
  ·simp
  ·rw[List.mem_cons,QN lt x y l,List.mem_cons]
   constructor
   ·rintro(h|h|h)
    ·exact .inr (.inl h)
    ·exact .inl h
    ·exact .inr (.inr h)
   ·rintro(h|h|h)
    ·exact .inr (.inl h)
    ·exact .inl h
    ·exact .inr (.inr h)
theorem XE(x:Tk):∀l:List Tk,l.Pairwise (fun a b=>¬xW b a=true)->(yl xW x l).Pairwise (fun a b=>¬xW b a=true)
 |[],_=>by simp[yl]
 |z::l,h=>by
  rw[List.pairwise_cons]at h
  unfold yl
  split
  ·rename_i hlt
   rw[List.pairwise_cons]
   refine⟨fun y c=>?_,List.pairwise_cons.2 h⟩
   rcases List.mem_cons.1 c with rfl|c
   ·rw[QM]at*;omega
   ·have:=h.1 y c
    rw[QM]at*;omega
  ·rename_i hlt
   rw[List.pairwise_cons]
   refine⟨fun y c=>?_,XE x l h.2⟩
   rcases(QN _ _ _ _).1 c with rfl|c
   ·exact hlt
   ·exact h.1 y c
theorem vW{m:RM}{l:List Sg}{kind:Int}{out:List Tk}{s:Sg}{k:Tk}:k∈yg m l kind out s↔(yG m kind s l=true/\k=qv m kind s)\/k∈out:=by
 unfold yg
 split
 ·rename_i h
  rw[QN]
  simp[h]
 ·rename_i h
  simp[h]
theorem XF{m:RM}{l:List Sg}{kind:Int}{out:List Tk}{s:Sg}(h:out.Pairwise (fun a b=>¬xW b a=true)):(yg m l kind out s).Pairwise (fun a b=>¬xW b a=true):=by
 unfold yg
 split
 ·exact XE _ _ h
 ·exact h
theorem Qq(m:RM)(l:List Sg):∀(xs:List Sg) (out:List Tk),out.Pairwise (fun a b=>¬xW b a=true)->(xs.foldl (fun out s=>yg m l 2 (yg m l 1 out s) s) out).Pairwise (fun a b=>¬xW b a=true)/\∀k,k∈xs.foldl (fun out s=>yg m l 2 (yg m l 1 out s) s) out↔k∈out\/∃s∈xs,∃kind,(kind=1\/kind=2)/\yG m kind s l=true/\k=qv m kind s
 |[],out,h=>⟨h,fun k=>by simp⟩
 |x::xs,out,h=>by
  obtain⟨e,f⟩:=Qq m l xs _ (XF (m:=m) (l:=l) (kind:=2) (s:=x) (XF (m:=m) (l:=l) (kind:=1) (s:=x) h))
  refine⟨e,fun k=>?_⟩
  rw[List.foldl_cons,f,vW,vW]
  constructor
  ·rintro((⟨a,b⟩|⟨a,b⟩|a)|⟨s,c,a⟩)
   ·exact .inr ⟨x,by simp,2,.inr rfl,a,b⟩
   ·exact .inr ⟨x,by simp,1,.inl rfl,a,b⟩
   ·exact .inl a
   ·exact .inr ⟨s,by simp[c],a⟩
  ·rintro(a|⟨s,c,kind,d,a,b⟩)
   ·exact .inl (.inr (.inr a))
   ·rcases List.mem_cons.1 c with rfl|c
    ·rcases d with rfl|rfl
     ·exact .inl (.inr (.inl ⟨a,b⟩))
     ·exact .inl (.inl ⟨a,b⟩)
    ·exact .inr ⟨s,c,kind,d,a,b⟩
theorem jh(m:RM):m.settled.tk.Pairwise (fun a b=>¬xW b a=true)/\∀k,k∈m.settled.tk↔∃s∈zE m.c m.nu,∃kind,(kind=1\/kind=2)/\yG m kind s (zE m.c m.nu)=true/\k=qv m kind s:=by
 have h:=Qq m (zE m.c m.nu) (zE m.c m.nu) [] List.Pairwise.nil
 have e:m.settled.tk=(zE m.c m.nu).foldl (fun out s=>yg m (zE m.c m.nu) 2 (yg m (zE m.c m.nu) 1 out s) s) []:=by
  unfold RM.settled xJ
  simp only[List.take_length]
 rw[e]
 refine⟨h.1,fun k=>?_⟩
 rw[h.2]
 simp
theorem Ka(lt:Tk->Tk->Bool)(x:Tk):∀l:List Tk,(yl lt x l).Perm (x::l)
 |[]=> .refl _
 |z::l=>by
  unfold yl
  split
  ·exact .refl _
  ·exact((Ka lt x l).cons z).trans (.swap x z l)
theorem kF(m:RM)(kind:Int)(s:Sg):(qv m kind s).kind=kind/\(qv m kind s).s=s:=by
 unfold qv
 have:∀(l:List Tk) (t:Tk),t.kind=kind/\t.s=s->(l.foldl (xQ kind s) t).kind=kind/\(l.foldl (xQ kind s) t).s=s:=fun l=>by
  induction l with
  |nil=>exact fun t h=>h
  |cons x l a=>
   intro t h
   refine a _ ?_
   unfold xQ
   split
   ·rename_i e;exact e
   ·exact h
 exact this _ _ ⟨rfl,rfl⟩
theorem YJ(m:RM)(l:List Sg):∀(xs:List Sg) (out:List Tk),xs.Nodup->out.Nodup->(∀k∈out,k.s∉xs)->(xs.foldl (fun out s=>yg m l 2 (yg m l 1 out s) s) out).Nodup
 |[],out,_,h,_=>h
 |x::xs,out,c,h,d=>by
  rw[List.nodup_cons]at c
  rw[List.foldl_cons]
  have b:∀(kind:Int) (o:List Tk),o.Nodup->(∀k∈o,k.s=x->k.kind≠kind)->(yg m l kind o x).Nodup:=fun kind o f a=>by
   unfold yg
   split
   ·rw[(Ka _ _ _).nodup_iff,List.nodup_cons]
    exact⟨fun j=>a _ j (kF m kind x).2 (kF m kind x).1,f⟩
   ·exact f
  have g:=b 1 out h (fun k a e=>absurd (by simp[e]) (d k a))
  have i:=b 2 _ g (fun k a e=>by
   rcases vW.1 a with⟨-,rfl⟩|a
   ·rw[(kF m 1 x).1];decide
   ·exact absurd (by simp[e]) (d k a))
  refine YJ m l xs _ c.2 i (fun k a=>?_)
  rcases vW.1 a with⟨-,rfl⟩|a
  ·rw[(kF m 2 x).2];exact c.1
  ·rcases vW.1 a with⟨-,rfl⟩|a
   ·rw[(kF m 1 x).2];exact c.1
   ·exact fun e=>d k a (by simp[e])
theorem Vf(m:RM):m.settled.tk.Nodup:=by
 have e:m.settled.tk=(zE m.c m.nu).foldl (fun out s=>yg m (zE m.c m.nu) 2 (yg m (zE m.c m.nu) 1 out s) s) []:=by
  unfold RM.settled xJ
  simp only[List.take_length]
 rw[e]
 exact YJ m _ _ [] (Xz _ _) List.nodup_nil (fun k a=>by cases a)
theorem xp.of_settled{TL:List (Jk×Tsk)}{QL:List (Tok×Lse)}{r:RM}(c:∀p∈TL,p.1=p.2.key)(hn:(zo TL).Nodup)(m:∀p∈TL,kM QL p.2∈r.settled.tk)(i:∀k∈r.settled.tk,∃p∈TL,k=kM QL p.2):xp TL QL r.settled.tk:=by
 have g:(r.settled.tk.map zdA).map (kM QL)=r.settled.tk:=by
  rw[List.map_map]
  conv=>rhs;rw[<-List.map_id r.settled.tk]
  apply List.map_congr_left
  intro k c
  obtain⟨p,-,rfl⟩:=i k c
  simp only[Function.comp,vE,id]
 have j:(r.settled.tk.map zdA).Nodup:=kP (f:=kM QL) (by rw[g];exact Vf r)
 have l:(TL.map (·.2)).Nodup:=by
  refine kP (f:=Tsk.key) ?_
  rw[List.map_map]
  have e:TL.map (Tsk.key∘fun p:Jk×Tsk=>p.2)=zo TL:=by
   unfold zo
   apply List.map_congr_left
   intro p d
   exact(c p d).symm
  rw[e];exact hn
 refine⟨r.settled.tk.map zdA,?_,?_,g.symm⟩
 ·rw[List.perm_ext_iff_of_nodup j l]
  intro x
  rw[List.mem_map,List.mem_map]
  constructor
  ·rintro⟨k,c,rfl⟩
   obtain⟨p,d,rfl⟩:=i k c
   exact⟨p,d,by rw[vE]⟩
  ·rintro⟨p,d,rfl⟩
   exact⟨_,m p d,by rw[vE]⟩
 ·rw[List.pairwise_map]
  refine List.Pairwise.imp_of_mem (fun{a b} n o h=>?_) (jh r).1
  obtain⟨p,-,rfl⟩:=i a n
  obtain⟨q,-,rfl⟩:=i b o
  rw[vE,vE,Qe]
  rw[QM]at h
  exact h
theorem zkd{T:List (Jk×Tsk)}(hn:(zo T).Nodup)(now:Int)(b:Bool)(kd:Int)(s:Sg)(k:Jk)(x:Tsk):∀a,(a=match zS T ⟨kd,s⟩with|some _=>T|none=>qI T ⟨kd,s⟩ ⟨b,s,now,0,0⟩)->((zo a).Nodup/\(zS a k=O x↔zS T k=O x\/(zS T k=K/\k=⟨kd,s⟩/\x=⟨b,s,now,0,0⟩))):=by
 rintro a rfl
 split
 ·rename_i y hy
  refine⟨hn,⟨.inl,?_⟩⟩
  rintro(h|⟨c,d,-⟩)
  ·exact h
  ·rw[d,hy]at c;cases c
 ·rename_i hy
  refine⟨qp hn,?_⟩
  rw[jq hn]
  by_cases e:k=⟨kd,s⟩
  ·rw[if_pos e,e,hy]
   simp[eq_comm]
  ·rw[if_neg e]
   simp[e]
theorem VI{now:Int}:∀(i:List Sg) {T:List (Jk×Tsk)},(zo T).Nodup->(zo (i.foldl (qH now) T)).Nodup/\∀k x,zS (i.foldl (qH now) T) k=O x↔zS T k=O x\/(zS T k=K/\∃s∈i,k=⟨1,s⟩/\x=⟨true,s,now,0,0⟩)
 |[],T,hn=>⟨hn,fun k x=>by simp⟩
 |y::i,T,hn=>by
  have c:=fun k x=>zkd hn now true 1 y k x (qH now T y) rfl
  obtain⟨l,m⟩:=VI i (c ⟨1,y⟩ ⟨true,y,now,0,0⟩).1
  refine⟨l,fun k x=>?_⟩
  rw[List.foldl_cons,m,(c k x).2]
  have j:zS (qH now T y) k=K↔zS T k=K/\k≠⟨1,y⟩:=by
   constructor
   ·intro h
    refine⟨?_,fun e=>?_⟩
    ·cases f:zS T k with
     |none=>rfl
     |some z=>rw[(c k z).2.2 (.inl f)]at h;cases h
    ·cases f:zS T k with
     |none=>rw[(c k _).2.2 (.inr ⟨f,e,rfl⟩)]at h;cases h
     |some z=>rw[(c k z).2.2 (.inl f)]at h;cases h
   ·rintro⟨a,b⟩
    cases f:zS (qH now T y) k with
    |none=>rfl
    |some z=>
     rcases(c k z).2.1 f with h|⟨-,h,-⟩
     ·rw[a]at h;cases h
     ·exact absurd h b
  rw[j]
  constructor
  ·rintro((a|⟨a,b,d⟩)|⟨⟨a,-⟩,s,g,b,d⟩)
   ·exact .inl a
   ·exact .inr ⟨a,y,by simp,b,d⟩
   ·exact .inr ⟨a,s,by simp[g],b,d⟩
  ·rintro(a|⟨a,s,g,b,d⟩)
   ·exact .inl (.inl a)
   ·by_cases e:k=⟨1,y⟩
    ·have:s=y:=by rw[b]at e;injection e
     subst this
     exact .inl (.inr ⟨a,b,d⟩)
    ·rcases List.mem_cons.1 g with rfl|g
     ·exact absurd b e
     ·exact .inr ⟨⟨a,e⟩,s,g,b,d⟩
theorem VH{now:Int}:∀(i:List Sg) {T:List (Jk×Tsk)},(zo T).Nodup->(zo (i.foldl (yd now) T)).Nodup/\∀k x,zS (i.foldl (yd now) T) k=O x↔zS T k=O x\/(zS T k=K/\∃s∈i,k=⟨2,s⟩/\x=⟨false,s,now,0,0⟩)
 |[],T,hn=>⟨hn,fun k x=>by simp⟩
 |y::i,T,hn=>by
  have c:=fun k x=>zkd hn now false 2 y k x (yd now T y) rfl
  obtain⟨l,m⟩:=VH i (c ⟨2,y⟩ ⟨false,y,now,0,0⟩).1
  refine⟨l,fun k x=>?_⟩
  rw[List.foldl_cons,m,(c k x).2]
  have j:zS (yd now T y) k=K↔zS T k=K/\k≠⟨2,y⟩:=by
   constructor
   ·intro h
    refine⟨?_,fun e=>?_⟩
    ·cases f:zS T k with
     |none=>rfl
     |some z=>rw[(c k z).2.2 (.inl f)]at h;cases h
    ·cases f:zS T k with
     |none=>rw[(c k _).2.2 (.inr ⟨f,e,rfl⟩)]at h;cases h
     |some z=>rw[(c k z).2.2 (.inl f)]at h;cases h
   ·rintro⟨a,b⟩
    cases f:zS (yd now T y) k with
    |none=>rfl
    |some z=>
     rcases(c k z).2.1 f with h|⟨-,h,-⟩
     ·rw[a]at h;cases h
     ·exact absurd h b
  rw[j]
  constructor
  ·rintro((a|⟨a,b,d⟩)|⟨⟨a,-⟩,s,g,b,d⟩)
   ·exact .inl a
   ·exact .inr ⟨a,y,by simp,b,d⟩
   ·exact .inr ⟨a,s,by simp[g],b,d⟩
  ·rintro(a|⟨a,s,g,b,d⟩)
   ·exact .inl (.inl a)
   ·by_cases e:k=⟨2,y⟩
    ·have:s=y:=by rw[b]at e;injection e
     subst this
     exact .inl (.inr ⟨a,b,d⟩)
    ·rcases List.mem_cons.1 g with rfl|g
     ·exact absurd b e
     ·exact .inr ⟨⟨a,e⟩,s,g,b,d⟩
theorem qD.get{c:Cf}{m:MS}{i:List (Jk×Tsk)}(hn:(zo m.TL).Nodup)(v:qD c m i):∃(j:List (Sg×Unit)),(∀x,x∈zo j↔∃k,k∈zl m.L/\(stL m.L k).st=2/\x∈yD c k)/\(zo i).Nodup/\∀k x,zS i k=O x↔zS m.TL k=O x\/(zS m.TL k=K/\∃s∈zl m.L,(kJ c j m.L m.now s=true/\k=⟨1,s⟩/\x=⟨true,s,m.now,0,0⟩)\/(kI c m.L m.now s=true/\k=⟨2,s⟩/\x=⟨false,s,m.now,0,0⟩)):=by
 obtain⟨j,g,r,u,n,o,rfl⟩:=v.to
 obtain⟨n1,l⟩:=VI (now:=m.now) g hn
 obtain⟨w,t⟩:=VH (now:=m.now) r n1
 refine⟨j,u,w,fun k x=>?_⟩
 rw[t,l]
 have q:zS (g.foldl (qH m.now) m.TL) k=K↔zS m.TL k=K/\∀s∈g,k≠⟨1,s⟩:=by
  constructor
  ·intro h
   have a:zS m.TL k=K:=by
    cases p:zS m.TL k with
    |none=>rfl
    |some z=>rw[(l k z).2 (.inl p)]at h;cases h
   exact⟨a,fun s f e=>by rw[(l k _).2 (.inr ⟨a,s,f,e,rfl⟩)]at h;cases h⟩
  ·rintro⟨a,b⟩
   cases p:zS (g.foldl (qH m.now) m.TL) k with
   |none=>rfl
   |some z=>
    rcases(l k z).1 p with h|⟨-,s,f,e,-⟩
    ·rw[a]at h;cases h
    ·exact absurd e (b s f)
 rw[q]
 constructor
 ·rintro((a|⟨a,s,f,b,d⟩)|⟨⟨a,-⟩,s,f,b,d⟩)
  ·exact .inl a
  ·exact .inr ⟨a,s,((n s).1 f).1,.inl ⟨((n s).1 f).2,b,d⟩⟩
  ·exact .inr ⟨a,s,((o s).1 f).1,.inr ⟨((o s).1 f).2,b,d⟩⟩
 ·rintro(a|⟨a,s,f,⟨h,b,d⟩|⟨h,b,d⟩⟩)
  ·exact .inl (.inl a)
  ·exact .inl (.inr ⟨a,s,(n s).2 ⟨f,h⟩,b,d⟩)
  ·exact .inr ⟨⟨a,fun A _ e=>by rw[b]at e;injection e with y;omega⟩,s,(o s).2 ⟨f,h⟩,b,d⟩
theorem jK(kind:Int)(s:Sg):∀(l:List Tk) (t:Tk),(∀x∈l,¬(x.kind=kind/\x.s=s))->l.foldl (xQ kind s) t=t
 |[],t,_=>rfl
 |x::l,t,h=>by
  rw[List.foldl_cons]
  have e:xQ kind s t x=t:=by unfold xQ;rw[if_neg (h x (by simp))]
  rw[e]
  exact jK kind s l t (fun y a=>h y (by simp[a]))
theorem Zw(kind:Int)(s:Sg)(x:Tk)(c:x.kind=kind/\x.s=s):∀(l:List Tk) (t:Tk),(∀y∈l,y.kind=kind/\y.s=s->y=x)->(t=x\/x∈l)->l.foldl (xQ kind s) t=x
 |[],t,_,h=>by
  rcases h with h|h
  ·exact h
  ·cases h
 |y::l,t,b,h=>by
  rw[List.foldl_cons]
  refine Zw kind s x c l _ (fun z d=>b z (by simp[d])) ?_
  by_cases a:y.kind=kind/\y.s=s
  ·have e:xQ kind s t y=y:=by unfold xQ;rw[if_pos a]
   exact .inl (e.trans (b y (by simp) a))
  ·have e:xQ kind s t y=t:=by unfold xQ;rw[if_neg a]
   rw[e]
   rcases h with h|h
   ·exact .inl h
   ·rcases List.mem_cons.1 h with h|h
    ·exact absurd (h▸c) a
    ·exact .inr h
section
variable {c:Cf} {ep:Int} {m:MS} {r:RM}
theorem zaR(f:MOk c ep m)(j:xp m.TL m.QL r.tk){kind:Int}{s:Sg}{x:Tsk}(k:zS m.TL ⟨kind,s⟩=O x):qv r kind s=kM m.QL x:=by
 have h:=zA k
 have g:(⟨kind,s⟩:Jk)=x.key:=(f.tk _ h).key
 unfold Tsk.key at g
 injection g with b d
 unfold qv
 refine Zw kind s (kM m.QL x) ⟨b.symm,d.symm⟩ _ _ (fun y n e=>?_) (.inr ((j.mem _).2 ⟨_,h,rfl⟩))
 obtain⟨q,i,rfl⟩:=(j.mem y).1 n
 have l:q.1=⟨kind,s⟩:=by
  rw[(f.tk q i).key]
  unfold Tsk.key
  rw[show q.2.kd=kind from e.1,show q.2.s=s from e.2]
 have a:zS m.TL q.1=O q.2:=xu f.nt i
 rw[l,k]at a
 injection a with a
 rw[a]
theorem Yi(d:MOk c ep m)(n:xp m.TL m.QL r.tk)(hn:r.now=m.now){b:Bool}{s:Sg}(i:zS m.TL ⟨(⟨b,s,m.now,0,0⟩:Tsk).kd,s⟩=K):qv r (⟨b,s,m.now,0,0⟩:Tsk).kd s=kM m.QL ⟨b,s,m.now,0,0⟩:=by
 have f:∀q∈m.QL,q.2.job≠(⟨b,s,m.now,0,0⟩:Tsk).key:=fun q a e=>by
  obtain⟨y,g,-⟩:=(d.leas q a).job
  rw[e]at g
  have:zS m.TL (⟨b,s,m.now,0,0⟩:Tsk).key=K:=i
  rw[this]at g;cases g
 unfold qv
 rw[jK]
 ·unfold zam kM
  rw[vU f,hn]
 ·intro k l e
  obtain⟨q,a,rfl⟩:=(n.mem k).1 l
  have j:q.1=⟨(⟨b,s,m.now,0,0⟩:Tsk).kd,s⟩:=by
   rw[(d.tk q a).key]
   unfold Tsk.key
   rw[show q.2.kd=_ from e.1,show q.2.s=s from e.2]
  have h:zS m.TL q.1=O q.2:=xu d.nt a
  rw[j,i]at h
  cases h
end
section
variable {c:Cf} {ep:Int} {m:MS} {r:RM}
theorem XK(d:MOk c ep m)(i:xp m.TL m.QL r.tk)(hn:r.now=m.now){a:List (Jk×Tsk)}(k:qD c m a){kind:Int}{s:Sg}{x:Tsk}(l:zS a ⟨kind,s⟩=O x):qv r kind s=kM m.QL x:=by
 obtain⟨n,-,-,j⟩:=k.get d.nt
 rcases(j _ x).1 l with h|⟨h,o,-,⟨-,e,rfl⟩|⟨-,e,rfl⟩⟩
 ·exact zaR d i h
 ·injection e with f g
  subst f g
  exact Yi (b:=true) d i hn h
 ·injection e with f g
  subst f g
  exact Yi (b:=false) d i hn h
theorem zaD(x:c.ok)(y:c.fits)(o:MOk c ep m)(w:xp m.TL m.QL r.tk)(hn:r.now=m.now){a:List (Jk×Tsk)}(q:qD c m a)(v:∀kind s,(kind=1\/kind=2)->s∈zE r.c r.nu->(yG r kind s (zE r.c r.nu)=true↔(⟨kind,s⟩:Jk)∈zo a))(i:∀k∈zo a,k.s∈zE r.c r.nu):xp a m.QL r.settled.tk:=by
 have h:=(o.post x y q).1
 have u:∀p∈a,p.1=p.2.key:=fun p b=>(h.tk p b).key
 have g:(zo a).Nodup:=h.nt
 refine xp.of_settled u g (fun p b=>?_) (fun k n=>?_)
 ·have l:zS a p.1=O p.2:=xu g b
  have f:p.1.kd=1\/p.1.kd=2:=by
   rw[u p b]
   show p.2.kd=1\/p.2.kd=2
   unfold Tsk.kd
   split<;>simp
  have d:p.1∈zo a:=List.mem_map.2 ⟨p,b,rfl⟩
  have j:=i _ d
  rw[(jh r).2]
  exact⟨p.1.s,j,p.1.kd,f,(v _ _ f j).2 d,(XK o w hn q l).symm⟩
 ·obtain⟨s,j,kind,f,t,rfl⟩:=((jh r).2 k).1 n
  have d:=(v kind s f j).1 t
  obtain⟨p,b,e⟩:=List.mem_map.1 d
  have l:zS a ⟨kind,s⟩=O p.2:=by rw[<-e];exact xu g b
  exact⟨p,b,XK o w hn q l⟩
end
end Go.Proofs.YtndhpgciopcncaaGreatDoor
