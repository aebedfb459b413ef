import Derived.Test.YtpbimdkclnekeaaGreatVSmlI
import Derived.Test.YtpbimdkclnekeaaGreatVRefI
import Derived.Test.YtpbimdkclnekeaaGreatVOpz0
open Go.Value renaming int → I
open Go.IntKind renaming i64 → J
open Option renaming none → K
open Option renaming some → O
open Go.RowKit renaming Below → E
open Nat renaming le_refl → Q
open Go renaming Value → N
open Go.IntKind (i32)
set_option linter.unusedVariables false
set_option maxRecDepth 8000
set_option maxHeartbeats 8000000
open Go.Proofs.Tryz
namespace Go.Proofs.YtpbimdkclnekeaaGreat
open Go.RowKit Go.Maps Go.Shelf
structure PD where
 po:Nat
 d:Nat
 r:Nat
 i:Ids
 c:Cf
 ct:N
 mv:N
 td:N
 fs:N
 ep:Int
 m:MS
 th:List Tok
 B0:Nat
 B1:Nat
 rm:RM
 rt:N
 nv:N
 pv:N
 gv:N
 kv:N
def PD.rest(p:PD)(k:Nat):Prop:=k=p.po\/Go.Proofs.YtpbimdkclnekeaaGreat.foot p.d p.fs k\/p.mv.ownBlock=O k\/p.td.ownBlock=O k\/vP p.r p.rt p.nv p.pv p.gv p.kv k
def PD.foot(p:PD)(k:Nat):Prop:=zU p.i k\/p.rest k
structure PD.at(p:PD)(w:World):Prop where
 head:w.1[p.po]?=O (zw p.i.x p.d p.c p.ct p.mv p.td p.ep)
 mill:zy w p.i p.c p.ep p.m
 disk:zR 119 185 p.B0 w p.d JB p.fs
 may:w.ownsRow 0 108 1 p.mv 1 [.pointer (O ⟨p.r,0,K⟩)]
 told:w.ownsRow 0 49 2 p.td p.th.length (p.th.flatMap ziM)
 ref:zJ p.B1 w p.r p.rm p.rt p.nv p.pv p.gv p.kv
 hap:∀k,p.pv.ownBlock=O k->¬p.gv.ownBlock=O k
 sim:xR p.c p.ep p.m p.rm
 twf:∀t∈p.th,t.wf
 apart:∀k,p.rest k->¬zU p.i k
theorem zck{w:World}{base:Nat}{e:TypeId}{size:Nat}{v:N}{n:Nat}{xs:List N}(h:w.ownsRow base e size v n xs):∀k,v.ownBlock=O k->k<w.1.size:=fun k a=>(h.lt k a).2
section
variable {p:PD} {w:World}
theorem PD.at.foot_lt(h:p.at w):∀k,p.foot k->k<w.1.size:=fun k a=>by
 rcases a with a|rfl|a|a|a|a
 ·exact h.mill.foot_lt k a
 ·exact zd h.head
 ·rcases a with rfl|a
  ·exact h.disk.lt
  ·exact zck h.disk.row k a
 ·exact zck h.may k a
 ·exact zck h.told k a
 ·exact(Qd h.ref k a).2
theorem PD.at.kept{f:Nat->Prop}{w':World}(h:p.at w)(a:zk f w w')(hn:∀k,p.foot k->¬f k):p.at w':=
 ⟨a.heap h.head (hn _ (.inr (.inl rfl))),h.mill.kept a (fun k e=>hn k (.inl e)),h.disk.kept a (fun k e=>hn k (.inr (.inr (.inl e)))),zi h.may a (fun k e=>hn k (.inr (.inr (.inr (.inl e))))),zi h.told a (fun k e=>hn k (.inr (.inr (.inr (.inr (.inl e)))))),h.ref.kept a (fun k e=>hn k (.inr (.inr (.inr (.inr (.inr e)))))),h.hap,h.sim,h.twf,h.apart⟩
theorem PD.at.later{w':World}(h:p.at w)(a:E w.1.size w w'):p.at w':=h.kept (f:=fun _=>False) (zk.of_below a) (fun _ _ e=>e)
theorem PD.at.disk_apart(h:p.at w):∀k,Go.Proofs.YtpbimdkclnekeaaGreat.foot p.d p.fs k->k≠p.po/\¬p.td.ownBlock=O k:=fun k i=>by
 have j:=h.head
 unfold zw at j
 have l:∃cs c,w.1[k]?=O (.cells cs c (0,0))/\(c=119\/c=185):=by
  rcases i with rfl|i
  ·exact⟨_,_,h.disk.head,.inl rfl⟩
  ·obtain⟨f,a⟩:=zO h.disk.row i;exact⟨_,_,a,.inr rfl⟩
 obtain⟨cs,c,a,b⟩:=l
 refine⟨fun e=>?_,fun e=>?_⟩
 ·rw[e,j]at a
  injection a with a;injection a with _ a
  rcases b with b|b<;>rw[b]at a<;>exact absurd a (by decide)
 ·obtain⟨f,g⟩:=zO h.told e
  rw[g]at a
  injection a with a;injection a with _ a
  rcases b with b|b<;>rw[b]at a<;>exact absurd a (by decide)
def PD.wr(p:PD)(k:Nat):Prop:=zU p.i k\/k=p.po\/p.td.ownBlock=O k
theorem PD.at.step{Z:World}(h:p.at w){q B':Nat}{mv' td' m l g f j:N}{m':MS}{rm':RM}{toks':List Tok}(a:zk p.wr w Z)
  (z:Z.1[p.po]?=O (zw p.i.x p.d p.c p.ct mv' td' p.ep)) (A:zy Z p.i p.c p.ep m') (B:Z.ownsRow 0 108 1 mv' 1 [.pointer (O ⟨q,0,K⟩)]) (o:∀k,mv'.ownBlock=O k->w.1.size<=k)
  (C:Z.ownsRow 0 49 2 td' toks'.length (toks'.flatMap ziM)) (s:∀k,td'.ownBlock=O k->p.td.ownBlock=O k\/w.1.size<=k) (D:zJ B' Z q rm' m l g f j) (u:∀k,vP q m l g f j k->vP p.r p.rt p.nv p.pv p.gv p.kv k\/w.1.size<=k) (F:∀k,g.ownBlock=O k->¬f.ownBlock=O k)
  (G:xR p.c p.ep m' rm') (H:∀t∈toks',t.wf):
  PD.at ⟨p.po,p.d,q,p.i,p.c,p.ct,mv',td',p.fs,p.ep,m',toks',p.B0,B',rm',m,l,g,f,j⟩ Z/\(∀k,PD.foot ⟨p.po,p.d,q,p.i,p.c,p.ct,mv',td',p.fs,p.ep,m',toks',p.B0,B',rm',m,l,g,f,j⟩ k->p.foot k\/w.1.size<=k)/\zk p.foot w Z:=by
 have n:=h.mill.foot_lt
 refine⟨⟨z,A,h.disk.kept a (fun k e b=>?_),B,C,D,F,G,H,fun k a=>?_⟩,fun k a=>?_,a.mono (fun k _ b=>?_)⟩
 ·obtain⟨v,y⟩:=h.disk_apart k e
  rcases b with b|b|b
  ·exact h.apart k (.inr (.inl e)) b
  ·exact v b
  ·exact y b
 ·rcases a with rfl|a|a|a|a
  ·exact h.apart _ (.inl rfl)
  ·exact h.apart _ (.inr (.inl a))
  ·exact fun e=>by have:=n k e;have:=o k a;omega
  ·rcases s k a with a|a
   ·exact h.apart _ (.inr (.inr (.inr (.inl a))))
   ·exact fun e=>by have:=n k e;omega
  ·rcases u k a with a|a
   ·exact h.apart _ (.inr (.inr (.inr (.inr a))))
   ·exact fun e=>by have:=n k e;omega
 ·rcases a with a|rfl|a|a|a|a
  ·exact .inl (.inl a)
  ·exact .inl (.inr (.inl rfl))
  ·exact .inl (.inr (.inr (.inl a)))
  ·exact .inr (o k a)
  ·rcases s k a with a|a
   ·exact .inl (.inr (.inr (.inr (.inr (.inl a)))))
   ·exact .inr a
  ·rcases u k a with a|a
   ·exact .inl (.inr (.inr (.inr (.inr (.inr a)))))
   ·exact .inr a
 ·rcases b with b|b|b
  ·exact .inl b
  ·exact .inr (.inl b)
  ·exact .inr (.inr (.inr (.inr (.inl b))))
end
theorem Tryz.infoTokL:(prog.info? 49).map (fun i=>(i.zero,i.size,i.bytes))=O (O (.agg #[I J 0,I J 0]),2,16):=by kernel_rfl
theorem xE{w:World}{b x d:Nat}{c:Cf}{ct j k:N}{ep:Int}(h:w.1[b]?=O (zw x d c ct j k ep)){B size n:Nat}{e:TypeId}{v:N}{xs:List N}(i:w.ownsRow B e size v n xs)(g:e≠106)(hv:v.ownBlock=O b):False:=by
 obtain⟨f,a⟩:=zO i hv
 unfold zw at h
 rw[h]at a
 injection a with a;injection a with _ a
 exact g a.symm
theorem jR(p:PD){w:World}(h:p.at w)(o:Ops)(kk:Int)(cH:(kk==6)=false)(t:Tok)
  (HT:∀V,E w.1.size w V->Calls prog 102 #[.pointer (O ⟨p.po,0,K⟩),.agg #[I J kk,I J o.on,I J o.a,I J o.b,I J o.c,I i32 o.v,I J o.te,I J o.tn,I J o.fs,I J o.fe,I J o.fd,I J o.fw,I J o.fk,I J o.fq,.slice o.fa o.fn o.fc]] V fun e V'=>e=.returned (.agg #[I J t.ep,I J t.num])/\E V.1.size V V')
  (ao:Tk->Int->MS->Prop)
  (HC:∀V,E w.1.size w V->Calls prog 103 #[.pointer (O ⟨p.po,0,K⟩),.agg #[I J kk,I J o.on,I J o.a,I J o.b,I J o.c,I i32 o.v,I J t.ep,I J t.num,I J o.fs,I J o.fe,I J o.fd,I J o.fw,I J o.fk,I J o.fq,.slice o.fa o.fn o.fc],.agg #[I J t.ep,I J t.num]] V fun e V'=>∃(jb:Tk) (C:Int) (m':MS),e=.returned (.tuple #[tkA jb,I J C])/\zy V' p.i p.c p.ep m'/\zk (zU p.i) V V'/\ao jb C m')
  (HD:∀jb C m',ao jb C m'->∃rm',xR p.c p.ep m' rm'/\∀B q V tv nv pv gv kv,zJ B V q p.rm tv nv pv gv kv->(∀k,pv.ownBlock=O k->¬gv.ownBlock=O k)->B<=V.1.size->Calls prog 105 #[.pointer (O ⟨q,0,K⟩),.agg #[I J kk,I J o.on,I J o.a,I J o.b,I J o.c,I i32 o.v,I J t.ep,I J t.num,I J o.fs,I J o.fe,I J o.fd,I J o.fw,I J o.fk,I J o.fq,.slice o.fa o.fn o.fc],.agg #[I J t.ep,I J t.num]] V fun e V'=>e=.returned (.tuple #[tkA jb,I J C])/\qi B V q rm' tv nv pv gv kv V')
  (aW:∀jb C m',ao jb C m'->¬C=13):
  Calls prog 55 #[.pointer (O ⟨p.po,0,K⟩),.agg #[I J kk,I J o.on,I J o.a,I J o.b,I J o.c,I i32 o.v,I J o.te,I J o.tn,I J o.fs,I J o.fe,I J o.fd,I J o.fw,I J o.fk,I J o.fq,.slice o.fa o.fn o.fc]] w fun e w'=>e=.returned (.bool true)/\∃p':PD,p'.at w'/\p'.po=p.po/\p'.i=p.i/\p'.c=p.c/\p'.ep=p.ep/\p'.th.length<=p.th.length+1/\(∃jb C,ao jb C p'.m)/\(∀k,p'.foot k->p.foot k\/w.1.size<=k)/\zk p.foot w w':=by
 have H:=ze h
 obtain⟨y,d,r,i,c,ct,mv,td,fs,ep,m,th,B0,B1,rm,rt,nv,pv,gv,kv⟩:=p
 dsimp only at HT HC HD ⊢
 have D:w.1[y]?=O (zw i.x d c ct mv td ep):=h.head
 have F:zy w i c ep m:=h.mill
 have ah:zR 119 185 B0 w d JB fs:=h.disk
 have aC:w.ownsRow 0 108 1 mv 1 [.pointer (O ⟨r,0,K⟩)]:=h.may
 have am:w.ownsRow 0 49 2 td th.length (th.flatMap ziM):=h.told
 have aD:zJ B1 w r rm rt nv pv gv kv:=h.ref
 have aH:∀k,k=y\/foot d fs k\/mv.ownBlock=O k\/td.ownBlock=O k\/vP r rt nv pv gv kv k->¬zU i k:=h.apart
 have aE:xR c ep m rm:=h.sim
 have cK:=zd D
 have bo:=F.foot_lt
 have aP:¬zU i y:=aH _ (.inl rfl)
 have av:E w.1.size w (w.alloc (.cells #[I J kk,I J o.on,I J o.a,I J o.b,I J o.c,I i32 o.v,I J o.te,I J o.tn,I J o.fs,I J o.fe,I J o.fd,I J o.fw,I J o.fk,I J o.fq,.slice o.fa o.fn o.fc] 68)):=(Below.refl _ _).alloc (Q _) _
 have b8:=ze (zo w (.cells #[I J kk,I J o.on,I J o.a,I J o.b,I J o.c,I i32 o.v,I J o.te,I J o.tn,I J o.fs,I J o.fe,I J o.fd,I J o.fw,I J o.fk,I J o.fq,.slice o.fa o.fn o.fc] 68))
 have cb:=zF w (.cells #[I J kk,I J o.on,I J o.a,I J o.b,I J o.c,I i32 o.v,I J o.te,I J o.tn,I J o.fs,I J o.fe,I J o.fd,I J o.fw,I J o.fk,I J o.fq,.slice o.fa o.fn o.fc] 68)
 have bd:=ze (HT _ av)
 have b1:=ze HC
 have b3:=ze HD
 have ay:=ze aW
 have b5:=ze D
 have cz:=ze F
 have bI:=ze ah
 have b7:=ze aC
 have bT:=ze am
 have bQ:=ze aD
 have ap:=ze aH
 have ad:=ze aE
 have bK:=ze bo
 clear HT HC HD aW h F ah aC am aD aH aE bo D
 go_enter func55,ntmps55
 go_wp2_with fail
 generalize(w.alloc (.cells #[I J kk,I J o.on,I J o.a,I J o.b,I J o.c,I i32 o.v,I J o.te,I J o.tn,I J o.fs,I J o.fe,I J o.fd,I J o.fw,I J o.fk,I J o.fq,.slice o.fa o.fn o.fc] 68))=X0 at*
 refine(ud bd).mono ?_
 rintro e w1 ⟨rfl,aI⟩
 have bE:=av.trans (aI.mono av.size)
 have Ha:=(aI.block w.1.size (by omega)).trans (ud b8)
 obtain⟨a0,a1,a2,a3,a4,a5,a6,a7,a8,a9,bV,bW,bX,bY,bZ,-⟩:=zc Ha
 have af:=fun j=>zD Ha j
 have cL:=zd Ha
 have HA:=ze Ha
 have aG:=ze bE
 clear Ha bE aI av bd b8 cb
 go_wp2_with fail
 have aS:((w1.setCell ⟨w.1.size,6,K⟩ (I J t.ep)).setCell ⟨w.1.size,7,K⟩ (I J t.num)).1[w.1.size]?=O (.cells #[I J kk,I J o.on,I J o.a,I J o.b,I J o.c,I i32 o.v,I J t.ep,I J t.num,I J o.fs,I J o.fe,I J o.fd,I J o.fw,I J o.fk,I J o.fq,.slice o.fa o.fn o.fc] 68 (0,0)):=xm (i:=7) (xm (i:=6) (ud HA) _) _
 have an:=(ud aG).size
 have aV:E w.1.size w (((w1.setCell ⟨w.1.size,6,K⟩ (I J t.ep)).setCell ⟨w.1.size,7,K⟩ (I J t.num)).alloc (.cells #[I J t.ep,I J t.num] 49)):=(((ud aG).setCell (p:=⟨w.1.size,6,K⟩) (Q _) _).setCell (p:=⟨w.1.size,7,K⟩) (Q _) _).alloc (by simpa[World.setCell]using an) _
 have aT:((w1.setCell ⟨w.1.size,6,K⟩ (I J t.ep)).setCell ⟨w.1.size,7,K⟩ (I J t.num)).1.size=w1.1.size:=by simp[World.setCell]
 have b9:=ze ((Below.heap_alloc _ (.cells #[I J t.ep,I J t.num] 49) _ (zd aS)).trans aS)
 have aU:=zo ((w1.setCell ⟨w.1.size,6,K⟩ (I J t.ep)).setCell ⟨w.1.size,7,K⟩ (I J t.num)) (.cells #[I J t.ep,I J t.num] 49)
 rw[aT]at aU
 have be:=ze aU
 have bk:(((w1.setCell ⟨w.1.size,6,K⟩ (I J t.ep)).setCell ⟨w.1.size,7,K⟩ (I J t.num)).alloc (.cells #[I J t.ep,I J t.num] 49)).1.size=w1.1.size+1:=by rw[zF,aT]
 have b0:=ze (ud b1 _ aV)
 have bU:=ze aV
 have cB:=ze bk
 clear a0 a1 a2 a3 a4 a5 a6 a7 a8 a9 bV bW bX bY bZ af aS aT aU aV bk an b1
 generalize(((w1.setCell ⟨w.1.size,6,K⟩ (I J t.ep)).setCell ⟨w.1.size,7,K⟩ (I J t.num)).alloc (.cells #[I J t.ep,I J t.num] 49))=X at*
 refine(ud b0).mono ?_
 rintro e V ⟨jb,C,m',rfl,bs,bp,L⟩
 obtain⟨rm',al,ai⟩:=ud b3 jb C m' L
 have c2:(C==13)=false:=by simpa using ud ay jb C m' L
 have bM:=ze bs
 have ac:=ze bp
 have aX:=ze L
 have bc:=ze al
 have aa:=ze ai
 have br:∀k,zU i k->k<w.1.size:=ud bK
 have bt:¬zU i w.1.size:=fun e=>by have:=br _ e;omega
 have an:=(ud aG).size
 have bu:¬zU i w1.1.size:=fun e=>by have:=br _ e;omega
 clear bs bp b0 L al ai b3 ay
 have P:zk (zU i) w V:=(zk.of_below (ud bU)).trans (ud ac) (fun _ _ h=>h)
 have n:zk (zU i) w (V.alloc (.cells #[I J jb.kind,I J jb.s.t,I J jb.s.se,I J jb.s.we,I J jb.si,I J jb.tc,I J jb.rest,I J jb.ep,I J jb.num,I J jb.slot,I J jb.till] 51)):=P.alloc _
 have bi:E V.1.size V (V.alloc (.cells #[I J jb.kind,I J jb.s.t,I J jb.s.se,I J jb.s.we,I J jb.si,I J jb.tc,I J jb.rest,I J jb.ep,I J jb.num,I J jb.slot,I J jb.till] 51)):=(Below.refl _ _).alloc (Q _) _
 have ax:=P.heap (ud b5) aP
 have p1:V.cell? ⟨y,1,K⟩=O (.pointer (O ⟨d,0,K⟩)):=by unfold zw at ax;rw[zN ax];rfl
 have bx:=zd ax
 have bJ:=ze ((ud bI).kept n (fun k l=>ud ap k (.inr (.inl l))))
 have ae:=ze (qO B0 d JB fs _ (ud bJ))
 rw[show zH JB=false from rfl]at ae
 have bR:=ze ((ud bQ).kept n (fun k l=>ud ap k (.inr (.inr (.inr (.inr l))))))
 have bh:=ze (zi (ud b7) n (fun k l=>ud ap k (.inr (.inr (.inl l)))))
 have bg:=ze (zi (ud bT) n (fun k l=>ud ap k (.inr (.inr (.inr (.inl l))))))
 have bN:=ze ((ud bM).later bi)
 have au:=ze (n.heap (ud b5) aP)
 have b6:=ze n
 have ar:=ze ((Below.heap_alloc _ (.cells #[I J jb.kind,I J jb.s.t,I J jb.s.se,I J jb.s.we,I J jb.si,I J jb.tc,I J jb.rest,I J jb.ep,I J jb.num,I J jb.slot,I J jb.till] 51) _ (zd ((ud ac).heap (ud b9) bt))).trans ((ud ac).heap (ud b9) bt))
 have bf:=ze ((Below.heap_alloc _ (.cells #[I J jb.kind,I J jb.s.t,I J jb.s.se,I J jb.s.we,I J jb.si,I J jb.tc,I J jb.rest,I J jb.ep,I J jb.num,I J jb.slot,I J jb.till] 51) _ (zd ((ud ac).heap (ud be) bu))).trans ((ud ac).heap (ud be) bu))
 have aq:=ze (zo V (.cells #[I J jb.kind,I J jb.s.t,I J jb.s.se,I J jb.s.we,I J jb.si,I J jb.tc,I J jb.rest,I J jb.ep,I J jb.num,I J jb.slot,I J jb.till] 51))
 have bj:(V.alloc (.cells #[I J jb.kind,I J jb.s.t,I J jb.s.se,I J jb.s.we,I J jb.si,I J jb.tc,I J jb.rest,I J jb.ep,I J jb.num,I J jb.slot,I J jb.till] 51)).1.size=V.1.size+1:=zF _ _
 have cM:=P.size
 clear P n bi ax
 go_wp2_with fail
 have cA:=ze bj
 clear p1 bx bj
 generalize(V.alloc (.cells #[I J jb.kind,I J jb.s.t,I J jb.s.se,I J jb.s.we,I J jb.si,I J jb.tc,I J jb.rest,I J jb.ep,I J jb.num,I J jb.slot,I J jb.till] 51))=Y at*
 refine(ud ae).mono ?_
 rintro e Y1 ⟨rfl,bl⟩
 rw[bl]
 clear bl ae
 obtain⟨mb,aF,aN,_,cu⟩:=(ud bh).form (by omega)
 have ak:=ud au
 have cn:Y.cell? ⟨y,13,K⟩=O (.bool false):=by unfold zw at ak;rw[zN ak];rfl
 have p9:Y.cell? ⟨y,9,K⟩=O (.slice (O ⟨mb,0,K⟩) 1 aF):=by unfold zw at ak;rw[zN ak,aN];rfl
 have c8:Y.cell? ⟨mb,0,K⟩=O (.pointer (O ⟨r,0,K⟩)):=by
  have:=ud bh
  rw[aN]at this
  rw[this.cellAt 0 (by omega)];rfl
 clear ak
 go_wp2_with fail
 refine wp_loop_rounds 2 ?_
 rw[rounds_succ]
 have b2:=ze (JS (ud bR) (ud ad).hokr (by have:=(ud ad).len;omega) (by have:=(ud ad).glen;omega) (by have:=(ud ad).plen;omega) (by have:=(ud ad).klen;omega))
 go_wp2_with fail
 refine(ud b2).mono ?_
 rintro e Z ⟨q,rfl,bG,cg,co,c0,ce,aQ,R,az⟩
 have bw:=(R.block w.1.size (zd (ud ar))).trans (ud ar)
 have bD:=(R.block w1.1.size (zd (ud bf))).trans (ud bf)
 obtain⟨o0,o1,o2,o3,o4,o5,o6,o7,o8,o9,ci,cj,ck,cl,cm,-⟩:=zc bw
 obtain⟨t0,t1,-⟩:=zc bD
 have b4:=ze (ud aa Y.1.size q Z bG cg co c0 ce aQ az R.size)
 have bb:=ze (Qd aQ)
 have aY:=ze R
 have bF:=R.size
 clear bw bD aQ R b2 az aa
 go_wp2_with fail
 refine(ud b4).mono ?_
 rintro e U ⟨rfl,aR⟩
 have bn:E Y.1.size Z U:=aR.kept.below bF (fun k e=>(ud bb k e).1)
 have ag:E Y.1.size Y U:=(ud aY).trans bn
 have aM:=(ag.block V.1.size (zd (ud aq))).trans (ud aq)
 obtain⟨j0,j1,j2,j3,j4,j5,j6,j7,j8,j9,cc,-⟩:=zc aM
 have cF:=zd aM
 have bP:=ze aR
 have G:=ze ag
 have c4:0<1:=by decide
 have c5:0+1<=maxLen:=by simp[maxLen]
 have c6:(0+1)*8<=140737488355328:=by omega
 clear aR bn ag aM b4 o0 o1 o2 o3 o4 o5 o6 o7 o8 o9 ci cj ck cl cm t0 t1
 go_wp2_with(first|(at_builtin;refine zP rfl _ _ 104 rfl 0 108 _ 1 8 underlying104 Tryz.infoRefP rfl (by decide) (.slice K 0 0) 0 [] rfl (World.ownsRow_nil _ _ _ _) ⟨U.1.size+1,0,K⟩ 1 1 [.pointer (O ⟨q,0,K⟩)] rfl rfl (World.news_of_block (cs:=#[.pointer (O ⟨q,0,K⟩)]) (Zz U _ _)) (by intro u hu;simp at hu;subst hu;rfl) c4 c5 c6 (Nat.zero_le _) ?_;intro g z T aj aO M aA cr;have bO:=ze aj;have bL:=ze M;have bH:=ze aA;clear aj aO M aA)|go_in)
 have aJ:=((ud G).alloc (ud G).size (.cells #[I J jb.kind,I J jb.s.t,I J jb.s.se,I J jb.s.we,I J jb.si,I J jb.tc,I J jb.rest,I J jb.ep,I J jb.num,I J jb.slot,I J jb.till] 51)).alloc (by have:=(ud G).size;simp;omega) (.cells #[.pointer (O ⟨q,0,K⟩)] 108)
 have aK:((U.alloc (.cells #[I J jb.kind,I J jb.s.t,I J jb.s.se,I J jb.s.we,I J jb.si,I J jb.tc,I J jb.rest,I J jb.ep,I J jb.num,I J jb.slot,I J jb.till] 51)).alloc (.cells #[.pointer (O ⟨q,0,K⟩)] 108)).grownBy T K:=ud bL
 have A:E Y.1.size Y T:=aJ.grown aK aJ.size (fun k e=>by cases e)
 have aw:E U.1.size U ((U.alloc (.cells #[I J jb.kind,I J jb.s.t,I J jb.s.se,I J jb.s.we,I J jb.si,I J jb.tc,I J jb.rest,I J jb.ep,I J jb.num,I J jb.slot,I J jb.till] 51)).alloc (.cells #[.pointer (O ⟨q,0,K⟩)] 108)):=(box2 U _ _).2.2.1
 have aB:E U.1.size U T:=aw.grown aK aw.size (fun k e=>by cases e)
 have S:=(A.block y (zd (ud au))).trans (ud au)
 have bv:=(A.block w.1.size (zd (ud ar))).trans (ud ar)
 have aL:=(A.block V.1.size (zd (ud aq))).trans (ud aq)
 have k9:T.cell? ⟨y,9,K⟩=O (.slice (O ⟨mb,0,K⟩) 1 aF):=by have hq:=S;unfold zw at hq;rw[zN hq,aN];rfl
 have cO:T.cell? ⟨y,11,K⟩=O td:=by have hq:=S;unfold zw at hq;rw[zN hq];rfl
 have cP:∀j,T.frozen? ⟨y,j,K⟩=false:=fun j=>by have hq:=S;unfold zw at hq;exact zD hq j
 obtain⟨k0,-⟩:=zc bv
 obtain⟨-,-,-,-,-,-,-,k7,k8,-⟩:=zc aL
 have cx:=zd S
 have cq:=zd aL
 have cJ:¬w.1.size=y:=by omega
 have cw:¬y=w.1.size:=by omega
 have cI:¬V.1.size=y:=by omega
 have cv:¬y=V.1.size:=by omega
 have ba:=ze S
 have W:=ze A
 have aZ:=ze aB
 have cE:U.1.size<=g:=by
  rcases ud bH with h|h
  ·cases h
  ·rw[h];exact aw.size
 have cD:w.1.size<=Y.1.size:=(ud b6).size
 have cC:Y.1.size<=U.1.size:=(ud G).size
 have bB:(T.setCell ⟨y,9,K⟩ (.slice (O ⟨g,0,K⟩) 1 z)).1[y]?=O (zw i.x d c ct (.slice (O ⟨g,0,K⟩) 1 z) td ep):=by
  have hq:=ud ba
  unfold zw at hq ⊢
  exact xm (i:=9) hq _
 have bq:zk (fun k=>k=y) T (T.setCell ⟨y,9,K⟩ (.slice (O ⟨g,0,K⟩) 1 z)):=zn (zk.refl _ _) rfl
 have bS:=ze bB
 have ab:=ze bq
 clear aJ aK A aw aB S bv aL bB bq j0 j1 j2 j3 j4 j5 j6 j7 j8 j9 cc cn p9 c8
 rw[rounds_succ]
 go_wp2_with fail
 go_ret
 have c3:zk (fun k=>zU i k\/k=y\/td.ownBlock=O k) w T:=((ud b6).mono (fun _ _ h=> .inl h)).trans (zk.of_below (f:=fun _=>False) (ud W)) (fun _ _ h=>h.elim)
 have c7:=(ud bN).later (ud W)
 have bC:=zi (ud bg) (zk.of_below (f:=fun _=>False) (ud W)) (fun _ _ h=>h)
 obtain⟨ch,cp,c1,cf,c9,bm,cG,bz⟩:=ud bP
 have ca:=c9.later (ud aZ)
 have cN:Y.1.size<=Z.1.size:=(ud aY).size
 have bA:∀k,vP q bG ch cp c1 cf k->Y.1.size<=k:=fun k l=>by
  rcases bz k l with h|h
  ·exact(ud bb k h).1
  ·omega
 have cy:y<Y.1.size:=zd (ud au)
 have hZ:zk (fun k=>zU i k\/k=y\/td.ownBlock=O k) w (T.setCell ⟨y,9,K⟩ (.slice (O ⟨g,0,K⟩) 1 z)):=c3.trans (ud ab) (fun k _ e=> .inr (.inl e))
 obtain⟨s1,s2,s3⟩:=(ud H).step (Z:=(T.setCell ⟨y,9,K⟩ (.slice (O ⟨g,0,K⟩) 1 z))) (q:=q) (B':=Y.1.size) (mv':=.slice (O ⟨g,0,K⟩) 1 z) (td':=td) (m':=m') (rm':=rm') (toks':=th) hZ (ud bS)
  (c7.kept (ud ab) (fun k l e=>aP (by rw[<-e];exact l))) (zi (ud bO) (ud ab) (fun k l e=>by have hg:g=k:=Option.some.inj l;omega)) (fun k l=>by have hg:g=k:=Option.some.inj l;omega)
  (zi bC (ud ab) (fun k l e=>xE (ud ba) bC (by decide) (e▸l))) (fun k l=> .inl l) (ca.kept (ud ab) (fun k l e=>by have:=bA k l;omega)) (fun k l=> .inr (by have:=bA k l;omega)) bm (ud bc) (ud H).twf
 exact⟨rfl,_,s1,rfl,rfl,rfl,rfl,Nat.le_succ _,⟨jb,C,ud aX⟩,s2,s3⟩
theorem J8(p:PD){w:World}(h:p.at w)(o:Ops)(t:Tok)
  (HT:∀V,E w.1.size w V->Calls prog 102 #[.pointer (O ⟨p.po,0,K⟩),.agg #[I J 6,I J o.on,I J o.a,I J o.b,I J o.c,I i32 o.v,I J o.te,I J o.tn,I J o.fs,I J o.fe,I J o.fd,I J o.fw,I J o.fk,I J o.fq,.slice o.fa o.fn o.fc]] V fun e V'=>e=.returned (.agg #[I J t.ep,I J t.num])/\E V.1.size V V')
  (ak:Tk->Int->MS->Prop)
  (HC:∀V,E w.1.size w V->Calls prog 103 #[.pointer (O ⟨p.po,0,K⟩),.agg #[I J 6,I J o.on,I J o.a,I J o.b,I J o.c,I i32 o.v,I J t.ep,I J t.num,I J o.fs,I J o.fe,I J o.fd,I J o.fw,I J o.fk,I J o.fq,.slice o.fa o.fn o.fc],.agg #[I J t.ep,I J t.num]] V fun e V'=>∃(jb:Tk) (G:Int) (m':MS),e=.returned (.tuple #[tkA jb,I J G])/\zy V' p.i p.c p.ep m'/\zk (zU p.i) V V'/\ak jb G m')
  (HD:∀jb G m',ak jb G m'->∃rm',xR p.c p.ep m' rm'/\∀B q V tv nv pv gv kv,zJ B V q p.rm tv nv pv gv kv->(∀k,pv.ownBlock=O k->¬gv.ownBlock=O k)->B<=V.1.size->Calls prog 105 #[.pointer (O ⟨q,0,K⟩),.agg #[I J 6,I J o.on,I J o.a,I J o.b,I J o.c,I i32 o.v,I J t.ep,I J t.num,I J o.fs,I J o.fe,I J o.fd,I J o.fw,I J o.fk,I J o.fq,.slice o.fa o.fn o.fc],.agg #[I J t.ep,I J t.num]] V fun e V'=>e=.returned (.tuple #[tkA jb,I J G])/\qi B V q rm' tv nv pv gv kv V')
  (bx:∀jb G m',ak jb G m'->¬G=13) (cF:∀jb G m,ak jb G m->(⟨jb.ep,jb.num⟩:Tok).wf) (ci:(p.th.length+1)*16<=140737488355328):
  Calls prog 55 #[.pointer (O ⟨p.po,0,K⟩),.agg #[I J 6,I J o.on,I J o.a,I J o.b,I J o.c,I i32 o.v,I J o.te,I J o.tn,I J o.fs,I J o.fe,I J o.fd,I J o.fw,I J o.fk,I J o.fq,.slice o.fa o.fn o.fc]] w fun e w'=>e=.returned (.bool true)/\∃p':PD,p'.at w'/\p'.po=p.po/\p'.i=p.i/\p'.c=p.c/\p'.ep=p.ep/\p'.th.length<=p.th.length+1/\(∃jb G,ak jb G p'.m)/\(∀k,p'.foot k->p.foot k\/w.1.size<=k)/\zk p.foot w w':=by
 have H:=ze h
 obtain⟨l,d,r,i,c,ct,mv,L,fs,ep,m,th,B0,B1,rm,rt,nv,pv,gv,kv⟩:=p
 dsimp only at HT HC HD ci ⊢
 have R:w.1[l]?=O (zw i.x d c ct mv L ep):=h.head
 have S:zy w i c ep m:=h.mill
 have aw:zR 119 185 B0 w d JB fs:=h.disk
 have b2:w.ownsRow 0 108 1 mv 1 [.pointer (O ⟨r,0,K⟩)]:=h.may
 have aF:w.ownsRow 0 49 2 L th.length (th.flatMap ziM):=h.told
 have b3:zJ B1 w r rm rt nv pv gv kv:=h.ref
 have bd:∀k,k=l\/foot d fs k\/mv.ownBlock=O k\/L.ownBlock=O k\/vP r rt nv pv gv kv k->¬zU i k:=h.apart
 have b4:xR c ep m rm:=h.sim
 have dp:=zd R
 have bY:=S.foot_lt
 have aQ:¬zU i l:=bd _ (.inl rfl)
 have aK:E w.1.size w (w.alloc (.cells #[I J 6,I J o.on,I J o.a,I J o.b,I J o.c,I i32 o.v,I J o.te,I J o.tn,I J o.fs,I J o.fe,I J o.fd,I J o.fw,I J o.fk,I J o.fq,.slice o.fa o.fn o.fc] 68)):=(Below.refl _ _).alloc (Q _) _
 have bI:=ze (zo w (.cells #[I J 6,I J o.on,I J o.a,I J o.b,I J o.c,I i32 o.v,I J o.te,I J o.tn,I J o.fs,I J o.fe,I J o.fd,I J o.fw,I J o.fk,I J o.fq,.slice o.fa o.fn o.fc] 68))
 have cV:=zF w (.cells #[I J 6,I J o.on,I J o.a,I J o.b,I J o.c,I i32 o.v,I J o.te,I J o.tn,I J o.fs,I J o.fe,I J o.fd,I J o.fw,I J o.fk,I J o.fq,.slice o.fa o.fn o.fc] 68)
 have bO:=ze (HT _ aK)
 have bB:=ze HC
 have bD:=ze HD
 have aT:=ze bx
 have bF:=ze R
 have df:=ze S
 have cp:=ze aw
 have bH:=ze b2
 have bP:=ze aF
 have cB:=ze b3
 have am:=ze bd
 have aq:=ze b4
 have cr:=ze bY
 clear HT HC HD bx h S aw b2 aF b3 bd b4 bY R
 go_enter func55,ntmps55
 go_wp2_with fail
 generalize(w.alloc (.cells #[I J 6,I J o.on,I J o.a,I J o.b,I J o.c,I i32 o.v,I J o.te,I J o.tn,I J o.fs,I J o.fe,I J o.fd,I J o.fw,I J o.fk,I J o.fq,.slice o.fa o.fn o.fc] 68))=X0 at*
 refine(ud bO).mono ?_
 rintro e w1 ⟨rfl,be⟩
 have ck:=aK.trans (be.mono aK.size)
 have Ha:=(be.block w.1.size (by omega)).trans (ud bI)
 obtain⟨a0,a1,a2,a3,a4,a5,a6,a7,a8,a9,cG,cH,cI,cJ,cK,-⟩:=zc Ha
 have af:=fun j=>zD Ha j
 have dq:=zd Ha
 have HA:=ze Ha
 have ba:=ze ck
 clear Ha ck be aK bO bI cV
 go_wp2_with fail
 have bp:((w1.setCell ⟨w.1.size,6,K⟩ (I J t.ep)).setCell ⟨w.1.size,7,K⟩ (I J t.num)).1[w.1.size]?=O (.cells #[I J 6,I J o.on,I J o.a,I J o.b,I J o.c,I i32 o.v,I J t.ep,I J t.num,I J o.fs,I J o.fe,I J o.fd,I J o.fw,I J o.fk,I J o.fq,.slice o.fa o.fn o.fc] 68 (0,0)):=xm (i:=7) (xm (i:=6) (ud HA) _) _
 have aG:=(ud ba).size
 have bs:E w.1.size w (((w1.setCell ⟨w.1.size,6,K⟩ (I J t.ep)).setCell ⟨w.1.size,7,K⟩ (I J t.num)).alloc (.cells #[I J t.ep,I J t.num] 49)):=(((ud ba).setCell (p:=⟨w.1.size,6,K⟩) (Q _) _).setCell (p:=⟨w.1.size,7,K⟩) (Q _) _).alloc (by simpa[World.setCell]using aG) _
 have bq:((w1.setCell ⟨w.1.size,6,K⟩ (I J t.ep)).setCell ⟨w.1.size,7,K⟩ (I J t.num)).1.size=w1.1.size:=by simp[World.setCell]
 have bL:=ze ((Below.heap_alloc _ (.cells #[I J t.ep,I J t.num] 49) _ (zd bp)).trans bp)
 have br:=zo ((w1.setCell ⟨w.1.size,6,K⟩ (I J t.ep)).setCell ⟨w.1.size,7,K⟩ (I J t.num)) (.cells #[I J t.ep,I J t.num] 49)
 rw[bq]at br
 have bQ:=ze br
 have bV:(((w1.setCell ⟨w.1.size,6,K⟩ (I J t.ep)).setCell ⟨w.1.size,7,K⟩ (I J t.num)).alloc (.cells #[I J t.ep,I J t.num] 49)).1.size=w1.1.size+1:=by rw[zF,bq]
 have bA:=ze (ud bB _ bs)
 have cE:=ze bs
 have di:=ze bV
 clear a0 a1 a2 a3 a4 a5 a6 a7 a8 a9 cG cH cI cJ cK af bp bq br bs bV aG bB
 generalize(((w1.setCell ⟨w.1.size,6,K⟩ (I J t.ep)).setCell ⟨w.1.size,7,K⟩ (I J t.num)).alloc (.cells #[I J t.ep,I J t.num] 49))=X at*
 refine(ud bA).mono ?_
 rintro e V ⟨jb,G,m',rfl,c4,c0,ab⟩
 obtain⟨rm',aE,ax⟩:=ud bD jb G m' ab
 have cM:(G==13)=false:=by simpa using ud aT jb G m' ab
 by_cases av:G=0
 case' pos=>
  have bg:(G==0)=true:=by simpa using av
 case' neg=>
  have bg:(G==0)=false:=by simpa using av
 all_goals
  clear av
  have cy:=ze c4
  have ao:=ze c0
  have al:=ze ab
  have aW:=ze aE
  have an:=ze ax
  have c3:∀k,zU i k->k<w.1.size:=ud cr
  have c5:¬zU i w.1.size:=fun e=>by have:=c3 _ e;omega
  have aG:=(ud ba).size
  have c6:¬zU i w1.1.size:=fun e=>by have:=c3 _ e;omega
  clear c4 c0 bA ab aE ax bD aT
  have ag:zk (zU i) w V:=(zk.of_below (ud cE)).trans (ud ao) (fun _ _ h=>h)
  have D:zk (zU i) w (V.alloc (.cells #[I J jb.kind,I J jb.s.t,I J jb.s.se,I J jb.s.we,I J jb.si,I J jb.tc,I J jb.rest,I J jb.ep,I J jb.num,I J jb.slot,I J jb.till] 51)):=ag.alloc _
  have bT:E V.1.size V (V.alloc (.cells #[I J jb.kind,I J jb.s.t,I J jb.s.se,I J jb.s.we,I J jb.si,I J jb.tc,I J jb.rest,I J jb.ep,I J jb.num,I J jb.slot,I J jb.till] 51)):=(Below.refl _ _).alloc (Q _) _
  have aP:=ag.heap (ud bF) aQ
  have p1:V.cell? ⟨l,1,K⟩=O (.pointer (O ⟨d,0,K⟩)):=by unfold zw at aP;rw[zN aP];rfl
  have cb:=zd aP
  have cq:=ze ((ud cp).kept D (fun k y=>ud am k (.inr (.inl y))))
  have ar:=ze (qO B0 d JB fs _ (ud cq))
  rw[show zH JB=false from rfl]at ar
  have cC:=ze ((ud cB).kept D (fun k y=>ud am k (.inr (.inr (.inr (.inr y))))))
  have bS:=ze (zi (ud bH) D (fun k y=>ud am k (.inr (.inr (.inl y)))))
  have aX:=ze (zi (ud bP) D (fun k y=>ud am k (.inr (.inr (.inr (.inl y))))))
  have bG:=ze ((ud cy).later bT)
  have ap:=ze (D.heap (ud bF) aQ)
  have b7:=ze D
  have aI:=ze ((Below.heap_alloc _ (.cells #[I J jb.kind,I J jb.s.t,I J jb.s.se,I J jb.s.we,I J jb.si,I J jb.tc,I J jb.rest,I J jb.ep,I J jb.num,I J jb.slot,I J jb.till] 51) _ (zd ((ud ao).heap (ud bL) c5))).trans ((ud ao).heap (ud bL) c5))
  have bR:=ze ((Below.heap_alloc _ (.cells #[I J jb.kind,I J jb.s.t,I J jb.s.se,I J jb.s.we,I J jb.si,I J jb.tc,I J jb.rest,I J jb.ep,I J jb.num,I J jb.slot,I J jb.till] 51) _ (zd ((ud ao).heap (ud bQ) c6))).trans ((ud ao).heap (ud bQ) c6))
  have aH:=ze (zo V (.cells #[I J jb.kind,I J jb.s.t,I J jb.s.se,I J jb.s.we,I J jb.si,I J jb.tc,I J jb.rest,I J jb.ep,I J jb.num,I J jb.slot,I J jb.till] 51))
  have bU:(V.alloc (.cells #[I J jb.kind,I J jb.s.t,I J jb.s.se,I J jb.s.we,I J jb.si,I J jb.tc,I J jb.rest,I J jb.ep,I J jb.num,I J jb.slot,I J jb.till] 51)).1.size=V.1.size+1:=zF _ _
  have dr:=ag.size
  clear ag D bT aP
  go_wp2_with fail
  have dh:=ze bU
  clear p1 cb bU
  generalize(V.alloc (.cells #[I J jb.kind,I J jb.s.t,I J jb.s.se,I J jb.s.we,I J jb.si,I J jb.tc,I J jb.rest,I J jb.ep,I J jb.num,I J jb.slot,I J jb.till] 51))=Y at*
  refine(ud ar).mono ?_
  rintro e Y1 ⟨rfl,bW⟩
  rw[bW]
  clear bW ar
  obtain⟨mb,b5,bl,_,db⟩:=(ud bS).form (by omega)
  have aC:=ud ap
  have d7:Y.cell? ⟨l,13,K⟩=O (.bool false):=by unfold zw at aC;rw[zN aC];rfl
  have p9:Y.cell? ⟨l,9,K⟩=O (.slice (O ⟨mb,0,K⟩) 1 b5):=by unfold zw at aC;rw[zN aC,bl];rfl
  have cT:Y.cell? ⟨mb,0,K⟩=O (.pointer (O ⟨r,0,K⟩)):=by
   have:=ud bS
   rw[bl]at this
   rw[this.cellAt 0 (by omega)];rfl
  clear aC
  go_wp2_with fail
  refine wp_loop_rounds 2 ?_
  rw[rounds_succ]
  have bC:=ze (JS (ud cC) (ud aq).hokr (by have:=(ud aq).len;omega) (by have:=(ud aq).glen;omega) (by have:=(ud aq).plen;omega) (by have:=(ud aq).klen;omega))
  go_wp2_with fail
  refine(ud bC).mono ?_
  rintro e Z ⟨q,rfl,bw,d1,d8,cL,d0,bn,ai,aY⟩
  have ca:=(ai.block w.1.size (zd (ud aI))).trans (ud aI)
  have ch:=(ai.block w1.1.size (zd (ud bR))).trans (ud bR)
  obtain⟨o0,o1,o2,o3,o4,o5,o6,o7,o8,o9,d2,d3,d4,d5,d6,-⟩:=zc ca
  obtain⟨t0,t1,-⟩:=zc ch
  have bE:=ze (ud an Y.1.size q Z bw d1 d8 cL d0 bn aY ai.size)
  have b8:=ze (Qd bn)
  have b6:=ze ai
  have cm:=ai.size
  clear ca ch bn ai bC aY an
  go_wp2_with fail
  refine(ud bE).mono ?_
  rintro e U ⟨rfl,bo⟩
  have bX:E Y.1.size Z U:=bo.kept.below cm (fun k e=>(ud b8 k e).1)
  have au:E Y.1.size Y U:=(ud b6).trans bX
  have bj:=(au.block V.1.size (zd (ud aH))).trans (ud aH)
  obtain⟨j0,j1,j2,j3,j4,j5,j6,j7,j8,j9,cX,-⟩:=zc bj
  have dm:=zd bj
  have bN:=ze bo
  have aa:=ze au
  have cQ:0<1:=by decide
  have cR:0+1<=maxLen:=by simp[maxLen]
  have cS:(0+1)*8<=140737488355328:=by omega
  clear bo bX au bj bE o0 o1 o2 o3 o4 o5 o6 o7 o8 o9 d2 d3 d4 d5 d6 t0 t1
  go_wp2_with(first|(at_builtin;refine zP rfl _ _ 104 rfl 0 108 _ 1 8 underlying104 Tryz.infoRefP rfl (by decide) (.slice K 0 0) 0 [] rfl (World.ownsRow_nil _ _ _ _) ⟨U.1.size+1,0,K⟩ 1 1 [.pointer (O ⟨q,0,K⟩)] rfl rfl (World.news_of_block (cs:=#[.pointer (O ⟨q,0,K⟩)]) (Zz U _ _)) (by intro u hu;simp at hu;subst hu;rfl) cQ cR cS (Nat.zero_le _) ?_;intro g n A az bm ae aZ d9;have bJ:=ze az;have cu:=ze ae;have cn:=ze aZ;clear az bm ae aZ)|go_in)
  have bf:=((ud aa).alloc (ud aa).size (.cells #[I J jb.kind,I J jb.s.t,I J jb.s.se,I J jb.s.we,I J jb.si,I J jb.tc,I J jb.rest,I J jb.ep,I J jb.num,I J jb.slot,I J jb.till] 51)).alloc (by have:=(ud aa).size;simp;omega) (.cells #[.pointer (O ⟨q,0,K⟩)] 108)
  have bh:((U.alloc (.cells #[I J jb.kind,I J jb.s.t,I J jb.s.se,I J jb.s.we,I J jb.si,I J jb.tc,I J jb.rest,I J jb.ep,I J jb.num,I J jb.slot,I J jb.till] 51)).alloc (.cells #[.pointer (O ⟨q,0,K⟩)] 108)).grownBy A K:=ud cu
  have P:E Y.1.size Y A:=bf.grown bh bf.size (fun k e=>by cases e)
  have aL:E U.1.size U ((U.alloc (.cells #[I J jb.kind,I J jb.s.t,I J jb.s.se,I J jb.s.we,I J jb.si,I J jb.tc,I J jb.rest,I J jb.ep,I J jb.num,I J jb.slot,I J jb.till] 51)).alloc (.cells #[.pointer (O ⟨q,0,K⟩)] 108)):=(box2 U _ _).2.2.1
  have b1:E U.1.size U A:=aL.grown bh aL.size (fun k e=>by cases e)
  have aj:=(P.block l (zd (ud ap))).trans (ud ap)
  have c9:=(P.block w.1.size (zd (ud aI))).trans (ud aI)
  have bi:=(P.block V.1.size (zd (ud aH))).trans (ud aH)
  have k9:A.cell? ⟨l,9,K⟩=O (.slice (O ⟨mb,0,K⟩) 1 b5):=by have F:=aj;unfold zw at F;rw[zN F,bl];rfl
  have cY:A.cell? ⟨l,11,K⟩=O L:=by have F:=aj;unfold zw at F;rw[zN F];rfl
  have cZ:∀j,A.frozen? ⟨l,j,K⟩=false:=fun j=>by have F:=aj;unfold zw at F;exact zD F j
  obtain⟨k0,-⟩:=zc c9
  obtain⟨-,-,-,-,-,-,-,k7,k8,-⟩:=zc bi
  have cc:=zd aj
  have ay:=zd bi
  have dn:¬w.1.size=l:=by omega
  have dd:¬l=w.1.size:=by omega
  have c7:¬V.1.size=l:=by omega
  have dc:¬l=V.1.size:=by omega
  have aJ:=ze aj
  have z:=ze P
  have aU:=ze b1
  have dl:U.1.size<=g:=by
   rcases ud cn with h|h
   ·cases h
   ·rw[h];exact aL.size
  have dk:w.1.size<=Y.1.size:=(ud b7).size
  have dj:Y.1.size<=U.1.size:=(ud aa).size
  have cf:(A.setCell ⟨l,9,K⟩ (.slice (O ⟨g,0,K⟩) 1 n)).1[l]?=O (zw i.x d c ct (.slice (O ⟨g,0,K⟩) 1 n) L ep):=by
   have F:=ud aJ
   unfold zw at F ⊢
   exact xm (i:=9) F _
  have c1:zk (fun k=>k=l) A (A.setCell ⟨l,9,K⟩ (.slice (O ⟨g,0,K⟩) 1 n)):=zn (zk.refl _ _) rfl
  have b9:=ze cf
  have M:=ze c1
  clear bf bh P aL b1 aj c9 bi cf c1 j0 j1 j2 j3 j4 j5 j6 j7 j8 j9 cX d7 p9 cT
 ·rw[rounds_succ]
  go_wp2_with fail
  go_ret
  have aN:zk (fun k=>zU i k\/k=l\/L.ownBlock=O k) w A:=((ud b7).mono (fun _ _ h=> .inl h)).trans (zk.of_below (f:=fun _=>False) (ud z)) (fun _ _ h=>h.elim)
  have aO:=(ud bG).later (ud z)
  have W:=zi (ud aX) (zk.of_below (f:=fun _=>False) (ud z)) (fun _ _ h=>h)
  obtain⟨bu,bv,bc,bt,aR,ac,bZ,ah⟩:=ud bN
  have aS:=aR.later (ud aU)
  have cW:Y.1.size<=Z.1.size:=(ud b6).size
  have aD:∀k,vP q bw bu bv bc bt k->Y.1.size<=k:=fun k y=>by
   rcases ah k y with h|h
   ·exact(ud b8 k h).1
   ·omega
  have ce:l<Y.1.size:=zd (ud ap)
  have hZ:zk (fun k=>zU i k\/k=l\/L.ownBlock=O k) w (A.setCell ⟨l,9,K⟩ (.slice (O ⟨g,0,K⟩) 1 n)):=aN.trans (ud M) (fun k _ e=> .inr (.inl e))
  obtain⟨s1,s2,s3⟩:=(ud H).step (Z:=(A.setCell ⟨l,9,K⟩ (.slice (O ⟨g,0,K⟩) 1 n))) (q:=q) (B':=Y.1.size) (mv':=.slice (O ⟨g,0,K⟩) 1 n) (td':=L) (m':=m') (rm':=rm') (toks':=th) hZ (ud b9)
   (aO.kept (ud M) (fun k y e=>aQ (by rw[<-e];exact y))) (zi (ud bJ) (ud M) (fun k y e=>by have hg:g=k:=Option.some.inj y;omega)) (fun k y=>by have hg:g=k:=Option.some.inj y;omega)
   (zi W (ud M) (fun k y e=>xE (ud aJ) W (by decide) (e▸y))) (fun k y=> .inl y) (aS.kept (ud M) (fun k y e=>by have:=aD k y;omega)) (fun k y=> .inr (by have:=aD k y;omega)) ac (ud aW) (ud H).twf
  exact⟨rfl,_,s1,rfl,rfl,rfl,rfl,Nat.le_succ _,⟨jb,G,ud al⟩,s2,s3⟩
 ·have aN:zk (fun k=>zU i k\/k=l\/L.ownBlock=O k) w A:=((ud b7).mono (fun _ _ h=> .inl h)).trans (zk.of_below (f:=fun _=>False) (ud z)) (fun _ _ h=>h.elim)
  have aO:=(ud bG).later (ud z)
  have W:=zi (ud aX) (zk.of_below (f:=fun _=>False) (ud z)) (fun _ _ h=>h)
  obtain⟨bu,bv,bc,bt,aR,ac,bZ,ah⟩:=ud bN
  have aS:=aR.later (ud aU)
  have cW:Y.1.size<=Z.1.size:=(ud b6).size
  have aD:∀k,vP q bw bu bv bc bt k->Y.1.size<=k:=fun k y=>by
   rcases ah k y with h|h
   ·exact(ud b8 k h).1
   ·omega
  have ce:l<Y.1.size:=zd (ud ap)
  have cg:=zi W (ud M) (fun k y e=>xE (ud aJ) W (by decide) (e▸y))
  have cl:(A.setCell ⟨l,9,K⟩ (.slice (O ⟨g,0,K⟩) 1 n)).1.size=A.1.size:=by simp[World.setCell]
  have cz:Hid (¬L.ownBlock=O l):=fun e=>xE (ud aJ) W (by decide) e
  have cP:th.length+1<=maxLen:=by simp only[maxLen];omega
  have cx:=ze aO
  have cD:=ze cg
  have cA:=ze aS
  have aV:=ze aD
  have cw:=ze aN
  have bz:=ze ac
  have bb:=ze cl
  clear aO W cg aR aS aD aN ac bZ ah cl
  rw[rounds_succ]
  go_wp2_with fail
  have t7:(A.setCell ⟨l,9,K⟩ (.slice (O ⟨g,0,K⟩) 1 n)).cell? ⟨V.1.size,7,K⟩=O (I J jb.ep):=(zr (ud M) c7 ay).trans k7
  have t8:(A.setCell ⟨l,9,K⟩ (.slice (O ⟨g,0,K⟩) 1 n)).cell? ⟨V.1.size,8,K⟩=O (I J jb.num):=(zr (ud M) c7 ay).trans k8
  have du:(A.setCell ⟨l,9,K⟩ (.slice (O ⟨g,0,K⟩) 1 n)).cell? ⟨l,11,K⟩=O L:=by have F:=ud b9;unfold zw at F;rw[zN F];rfl
  have dw:l<(A.setCell ⟨l,9,K⟩ (.slice (O ⟨g,0,K⟩) 1 n)).1.size:=by rw[ud bb];exact cc
  have dv:V.1.size<(A.setCell ⟨l,9,K⟩ (.slice (O ⟨g,0,K⟩) 1 n)).1.size:=by rw[ud bb];exact ay
  clear k7 k8 k9 cY k0 cZ
  generalize hT:(A.setCell ⟨l,9,K⟩ (.slice (O ⟨g,0,K⟩) 1 n))=T at*
  have dg:=ze hT
  clear hT
  go_region_law (refine YA rfl (.tmp 139) (.tmp 142) 41 49 2 16 rfl underlying41 Tryz.infoTokL rfl (by decide) 0 L th.length (th.flatMap ziM) (by simp[Act.eval]) (Z5 ((ud cD).alloc _)) T.1.size [I J jb.ep,I J jb.num] 49 (0,0) (by simp[Act.eval]) (Z4 T _) rfl (by simp[Value.oneCell']) cP ci (Nat.zero_le _) ?_;intro g6 C W6 aA ad b0 da;have bk:zk (fun k=>L.ownBlock=O k) T W6:=zk.grown ((zk.refl _ _).alloc _) (jg ad) (fun k y _=>y);have aB:=bk.heap (ud b9) (ud cz);have ds:W6.cell? ⟨l,11,K⟩=O L:=(by have F:=aB;unfold zw at F;rw[zN F];rfl);have dt:∀j,W6.frozen? ⟨l,j,K⟩=false:=(fun j=>by have F:=aB;unfold zw at F;exact zD F j);have de:=zd aB;have bM:=ze aB;have cv:=ze bk;have bK:=ze aA;have co:Hid (L.ownBlock=O g6\/T.1.size<=g6):=(by rcases b0 with h|h;exact .inl h;right;rw[h];show T.1.size<=(T.alloc _).1.size;rw[zF];omega);clear aA ad b0 bk aB)
  all_goals
   go_wp2_with fail
   go_ret
   have cU:(W6.setCell ⟨l,11,K⟩ (.slice (O ⟨g6,0,K⟩) (th.length+1) C)).1[l]?=O (zw i.x d c ct (.slice (O ⟨g,0,K⟩) 1 n) (.slice (O ⟨g6,0,K⟩) (th.length+1) C) ep):=by
    have F:=ud bM
    unfold zw at F ⊢
    exact xm (i:=11) F _
   have cO:zk (fun k=>k=l\/L.ownBlock=O k) A T:=(ud M).mono (fun _ _ e=> .inl e)
   have aM:zk (fun k=>k=l\/L.ownBlock=O k) A (W6.setCell ⟨l,11,K⟩ (.slice (O ⟨g6,0,K⟩) (th.length+1) C)):=zn (cO.trans (ud cv) (fun k _ e=> .inr e)) (.inl rfl)
   have hZ:zk (fun k=>zU i k\/k=l\/L.ownBlock=O k) w (W6.setCell ⟨l,11,K⟩ (.slice (O ⟨g6,0,K⟩) (th.length+1) C)):=(ud cw).trans aM (fun k _ e=> .inr e)
   have c2:zk (fun k=>k=l) W6 (W6.setCell ⟨l,11,K⟩ (.slice (O ⟨g6,0,K⟩) (th.length+1) C)):=zn (zk.refl _ _) rfl
   have cj:∀k,L.ownBlock=O k->k<w.1.size:=zck (ud bP)
   have c8:∀k,Y.1.size<=k->¬(k=l\/L.ownBlock=O k):=fun k y e=>by
    rcases e with e|e
    ·omega
    ·have:=cj k e;omega
   have cN:L.ownBlock=O g6\/w.1.size<=g6:=by
    rcases ud co with h|h
    ·exact .inl h
    ·right
     have h1:=ud bb
     have:=(ud z).size;omega
   obtain⟨s1,s2,s3⟩:=(ud H).step (Z:=W6.setCell ⟨l,11,K⟩ (.slice (O ⟨g6,0,K⟩) (th.length+1) C)) (q:=q) (B':=Y.1.size) (mv':=.slice (O ⟨g,0,K⟩) 1 n) (td':=.slice (O ⟨g6,0,K⟩) (th.length+1) C) (m':=m') (rm':=rm') (toks':=th++[⟨jb.ep,jb.num⟩]) hZ cU
    ((ud cx).kept aM (fun k y e=>by
     rcases e with e|e
     ·exact aQ (by rw[<-e];exact y)
     ·exact ud am k (.inr (.inr (.inr (.inl e)))) y)) (zi (ud bJ) aM (fun k y e=>by have hg:g=k:=Option.some.inj y;exact c8 k (by omega) e)) (fun k y=>by have hg:g=k:=Option.some.inj y;omega)
    (by
     have h1:=zi (ud bK) c2 (fun k y e=>by
      subst e
      exact xE (ud bM) (ud bK) (by decide) y)
     rw[Y6,List.length_append]
     exact h1) (fun k y=>by have hg:g6=k:=Option.some.inj y;rw[<-hg];exact cN) ((ud cA).kept aM (fun k y e=>c8 k (ud aV k y) e)) (fun k y=> .inr (by have:=ud aV k y;omega)) (ud bz) (ud aW) (fun x hx=>by
     rcases List.mem_append.1 hx with hx|hx
     ·exact(ud H).twf x hx
     ·rw[List.mem_singleton.1 hx];exact cF jb G m' (ud al))
   exact⟨rfl,_,s1,rfl,rfl,rfl,rfl,by simp,⟨jb,G,ud al⟩,s2,s3⟩
end Go.Proofs.YtpbimdkclnekeaaGreat
