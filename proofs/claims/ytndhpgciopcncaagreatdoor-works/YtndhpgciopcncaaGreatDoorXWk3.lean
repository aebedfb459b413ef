import Derived.Test.YtndhpgciopcncaaGreatDoorXJbs0
open Option renaming some → J
set_option linter.unusedVariables false
set_option maxRecDepth 8000
set_option maxHeartbeats 8000000
open Go.Proofs.Tryz
namespace Go.Proofs.YtndhpgciopcncaaGreatDoor
open Go.RowKit Go.Maps Go.Shelf
variable {xs:List Value} {n size:Nat} {v:Value} {w w':World}
structure PD where
 po:Nat
 d:Nat
 r:Nat
 i:Ids
 c:Cf
 ct:Value
 mv:Value
 td:Value
 fs:Option Nat
 ep:Int
 m:MS
 th:List Tok
 B0:Nat
 B1:Nat
 rm:RM
 rt:Value
 nv:Value
 pv:Value
 gv:Value
 kv:Value
def mft(i:Ids)(fs:Option Nat)(k:Nat):Prop:=zlF i k\/fs=J k
def PD.rest(p:PD)(k:Nat):Prop:=k=p.po\/False\/p.mv.ownBlock=J k\/p.td.ownBlock=J k\/jI p.r p.rt p.nv p.pv p.gv p.kv k
def PD.foot(p:PD)(k:Nat):Prop:=mft p.i p.fs k\/p.rest k
structure PD.at(p:PD)(w:World):Prop where
 head:w.1[p.po]?=J (zL p.i.x p.d p.c p.ct p.mv p.td p.ep)
 mill:zF w p.i p.c p.ep p.m
 disk:p.d=p.i.d/\fsB w p.i.d=p.fs/\∀k,p.rt.ownBlock=J k->¬p.i.tv.ownBlock=J k
 may:w.ownsRow 0 138 1 p.mv 1 [(O p.r)]
 told:w.ownsRow 0 49 2 p.td p.th.length (p.th.flatMap zoE)
 ref:zR p.B1 w p.r p.rm p.rt p.nv p.pv p.gv p.kv
 hap:∀k,p.pv.ownBlock=J k->¬p.gv.ownBlock=J k
 sim:ql p.c p.ep p.m p.rm
 twf:∀t∈p.th,t.wf
 nt:∀k,p.rest k->k≠Qt
theorem zjH{base:Nat}{e:TypeId}(h:w.ownsRow base e size v n xs):∀k,v.ownBlock=J k->k<w.1.size:=fun k a=>(h.lt k a).2
section
variable {p:PD} {w:World}
theorem PD.at.mft(h:p.at w){k:Nat}:mft p.i p.fs k↔xm w p.i k:=by
 unfold Go.Proofs.YtndhpgciopcncaaGreatDoor.mft xm;rw[h.disk.2.1]
theorem PD.at.apart(h:p.at w):∀k,p.rest k->¬xm w p.i k:=fun k a=>by
 rcases a with a|a|a|a|a
 ·rw[a];exact h.mill.not_post h.head
 ·exact a.elim
 ·exact h.mill.not_row h.may (by decide) a
 ·exact h.mill.not_row h.told (by decide) a
 ·rcases a with a|a|a|a|a|a
  ·rw[a];exact h.mill.tag h.ref.head (by decide)
  ·exact fun e=>by obtain⟨b,c⟩:=zG h.ref.trow a;exact h.disk.2.2 k a (h.mill.tier c e)
  ·exact h.mill.not_row h.ref.nrow (by decide) a
  ·exact h.mill.not_row h.ref.prow (by decide) a
  ·exact h.mill.not_row h.ref.grow (by decide) a
  ·exact h.mill.not_row h.ref.krow (by decide) a
theorem PD.at.foot_lt(h:p.at w):∀k,p.foot k->k<w.1.size:=fun k a=>by
 rcases a with a|rfl|a|a|a|a
 ·exact h.mill.foot_lt k (h.mft.1 a)
 ·exact zd h.head
 ·exact a.elim
 ·exact zjH h.may k a
 ·exact zjH h.told k a
 ·exact(zjy h.ref k a).2
theorem PD.at.kept{f:Nat->Prop}(h:p.at w)(a:zj f w w')(hn:∀k,p.foot k->¬f k)(b:¬f Qt):p.at w':=
 ⟨a.heap h.head (hn _ (.inr (.inl rfl))),h.mill.kept a (fun k e=>hn k (.inl (h.mft.2 e))) b,⟨h.disk.1,(ji a h.mill.dlt (hn _ (.inl (.inl (.inr (.inr (.inr (.inr rfl)))))))).trans h.disk.2.1,h.disk.2.2⟩,zi h.may a (fun k e=>hn k (.inr (.inr (.inr (.inl e))))),zi h.told a (fun k e=>hn k (.inr (.inr (.inr (.inr (.inl e)))))),h.ref.kept a (fun k e=>hn k (.inr (.inr (.inr (.inr (.inr e)))))),h.hap,h.sim,h.twf,h.nt⟩
theorem PD.at.later(h:p.at w)(a:B_ w w'):p.at w':=h.kept (f:=fun _=>False) (zj.of_below a) (fun _ _ e=>e) (fun e=>e)
def PD.wr(p:PD)(k:Nat):Prop:=mft p.i p.fs k\/k=p.po\/p.td.ownBlock=J k
theorem PD.at.step{Z:World}(h:p.at w){q B':Nat}{mv' td' l j f b g:Value}{m':MS}{rm':RM}{toks':List Tok}(a:zj p.wr w Z)(u:∀k,fsB Z p.i.d=J k->p.fs=J k\/w.1.size<=k)(z:Z.1[p.po]?=J (zL p.i.x p.d p.c p.ct mv' td' p.ep))(A:zF Z p.i p.c p.ep m')(B:Z.ownsRow 0 138 1 mv' 1 [(O q)])(o:∀k,mv'.ownBlock=J k->w.1.size<=k)(C:Z.ownsRow 0 49 2 td' toks'.length (toks'.flatMap zoE))(s:∀k,td'.ownBlock=J k->p.td.ownBlock=J k\/w.1.size<=k)(D:zR B' Z q rm' l j f b g)(m:∀k,jI q l j f b g k->jI p.r p.rt p.nv p.pv p.gv p.kv k\/w.1.size<=k)(E:∀k,f.ownBlock=J k->¬b.ownBlock=J k)(F:ql p.c p.ep m' rm')(G:∀t∈toks',t.wf):
  PD.at ⟨p.po,p.d,q,p.i,p.c,p.ct,mv',td',fsB Z p.i.d,p.ep,m',toks',p.B0,B',rm',l,j,f,b,g⟩ Z/\(∀k,PD.foot ⟨p.po,p.d,q,p.i,p.c,p.ct,mv',td',fsB Z p.i.d,p.ep,m',toks',p.B0,B',rm',l,j,f,b,g⟩ k->p.foot k\/w.1.size<=k)/\zj p.foot w Z:=by
 have H:=h.mill.tab.lt;refine⟨⟨z,A,⟨h.disk.1,rfl,fun k a e=>?_⟩,B,C,D,E,F,G,fun k a=>?_⟩,fun k a=>?_,a.mono (fun k _ n=>?_)⟩
 ·have y:xm w p.i k:=.inl (.inr (.inl (.inr (.inl e))));rcases m k (.inr (.inl a))with v|v
  ·exact h.apart k (.inr (.inr (.inr (.inr v)))) y
  ·have:=h.mill.foot_lt k y;omega
 ·rcases a with rfl|a|a|a|a
  ·exact h.nt _ (.inl rfl)
  ·exact a.elim
  ·exact fun e=>by have:=o k a;omega
  ·rcases s k a with a|a
   ·exact h.nt _ (.inr (.inr (.inr (.inl a))))
   ·exact fun e=>by omega
  ·rcases m k a with a|a
   ·exact h.nt _ (.inr (.inr (.inr (.inr a))))
   ·exact fun e=>by omega
 ·rcases a with a|rfl|a|a|a|a
  ·rcases a with a|a
   ·exact .inl (.inl (.inl a))
   ·rcases u k a with a|a
    ·exact .inl (.inl (.inr a))
    ·exact .inr a
  ·exact .inl (.inr (.inl rfl))
  ·exact a.elim
  ·exact .inr (o k a)
  ·rcases s k a with a|a
   ·exact .inl (.inr (.inr (.inr (.inr (.inl a)))))
   ·exact .inr a
  ·rcases m k a with a|a
   ·exact .inl (.inr (.inr (.inr (.inr (.inr a)))))
   ·exact .inr a
 ·rcases n with n|n|n
  ·exact .inl n
  ·exact .inr (.inl n)
  ·exact .inr (.inr (.inr (.inr (.inl n))))
end
theorem Tryz.infoTokL:(prog.info? 49).map (fun i=>(i.zero,i.size,i.bytes))=J (J (.agg #[I 0,I 0]),2,16):=by kernel_rfl
theorem xV{po x d:Nat}{c:Cf}{ct mv td:Value}{ep:Int}(h:w.1[po]?=J (zL x d c ct mv td ep)){B:Nat}{e:TypeId}(g:w.ownsRow B e size v n xs)(f:e≠137)(hv:v.ownBlock=J po):False:=by
 obtain⟨b,a⟩:=zG g hv;unfold zL at h;rw[h]at a;injection a with a;injection a with _ a;exact f a.symm
theorem Ke(p:PD)(h:p.at w)(o:Ops)(W:Int)(t:Tok)(HT:∀V,B_ w V->Calls prog 139 #[(O p.po),.agg (oZz W o)] V fun e V'=>e=.returned (.agg #[I t.ep,I t.num])/\B_ V V')(ae:Tk->Int->MS->Prop)(HC:∀V,B_ w V->Calls prog 140 #[(O p.po),.agg (qZz W o t.ep t.num),.agg #[I t.ep,I t.num]] V fun e V'=>∃(jb:Tk) (y:Int) (m':MS),e=.returned (.tuple #[tkA jb,I y])/\zF V' p.i p.c p.ep m'/\Kx p.i V V'/\ae jb y m')(HD:∀jb y m',ae jb y m'->∃rm',ql p.c p.ep m' rm'/\∀B q V tv nv pv gv kv,zR B V q p.rm tv nv pv gv kv->(∀k,pv.ownBlock=J k->¬gv.ownBlock=J k)->B<=V.1.size->Calls prog 142 #[(O q),.agg (qZz W o t.ep t.num),.agg #[I t.ep,I t.num]] V fun e V'=>e=.returned (.tuple #[tkA jb,I y])/\kG B V q rm' tv nv pv gv kv V')(bD:∀jb y m',ae jb y m'->¬y=13)(ao:W=6->(p.th.length+1)*16<=140737488355328/\∀jb y m,ae jb y m->(⟨jb.ep,jb.num⟩:Tok).wf):
  Calls prog 80 #[(O p.po),.agg (oZz W o)] w fun e w'=>e=.returned (.bool true)/\∃p':PD,p'.at w'/\p'.po=p.po/\p'.i=p.i/\p'.c=p.c/\p'.ep=p.ep/\p'.th.length<=p.th.length+1/\(∃jb y,ae jb y p'.m)/\(∀k,p'.foot k->p.foot k\/w.1.size<=k)/\zj p.foot w w':=by
 have H:=ze h;obtain⟨po,d,r,i,c,ct,mv,td,fs,ep,m,th,B0,B1,rm,rt,nv,pv,gv,kv⟩:=p;dsimp only at HT HC HD ao ⊢;have K:w.1[po]?=J (zL i.x d c ct mv td ep):=h.head;have E:zF w i c ep m:=h.mill;have ck:∀k,k=po\/False\/mv.ownBlock=J k\/td.ownBlock=J k\/jI r rt nv pv gv kv k->k≠Qt:=h.nt;have aX:∀k,k=po\/False\/mv.ownBlock=J k\/td.ownBlock=J k\/jI r rt nv pv gv kv k->¬xm w i k:=h.apart;obtain⟨c8,aM⟩:d=i.d/\fsB w i.d=fs:=⟨h.disk.1,h.disk.2.1⟩;have b4:w.ownsRow 0 138 1 mv 1 [(O r)]:=h.may;have aE:w.ownsRow 0 49 2 td th.length (th.flatMap zoE):=h.told;have b5:zR B1 w r rm rt nv pv gv kv:=h.ref;have bg:∀k,k=po\/False\/mv.ownBlock=J k\/td.ownBlock=J k\/jI r rt nv pv gv kv k->¬mft i fs k:=by intro k a;rw[<-aM];exact aX k a
 have b6:ql c ep m rm:=h.sim;have dz:=zd K;have c9:∀k,mft i fs k->k<w.1.size:=by intro k a;rw[<-aM]at a;exact E.foot_lt k a
 have b2:=E.flt;have co:¬mft i fs po:=bg _ (.inl rfl);have aJ:B_ w (w.alloc (.cells (oZz W o) 82)):=(Below.refl _ _).alloc (Nat.le_refl _) _;have bR:=ze (zo w (.cells (oZz W o) 82));have d5:=zE w (.cells (oZz W o) 82);have bX:=ze (HT _ aJ);have bG:=ze HC;have bI:=ze HD;have aR:=ze bD;have cK:=ze ao;have bN:=ze K;have dq:=ze E;have ak:=ze ck;have bL:=ze aM;have cD:=ze c8;have ai:=ze b2;have bQ:=ze b4;have bZ:=ze aE;have cM:=ze b5;have b8:=ze bg;have am:=ze b6;have cE:=ze c9;clear HT HC HD bD ao h E ck aX aM c8 b2 b4 aE b5 bg b6 c9 K;go_in;go_wp2_with fail;generalize(w.alloc (.cells (oZz W o) 82))=X0 at*;refine bX.mono ?_;rintro e w1 ⟨rfl,bh⟩;have cx:=aJ.trans (bh.mono aJ.size);have Ha:=(bh.block w.1.size (by omega)).trans bR;obtain⟨a0,a1,a2,a3,a4,a5,a6,a7,a8,a9,cP,cQ,cR,cS,cT,-⟩:=zc Ha;have af:=fun j=>zI Ha j;have dA:=zd Ha;have HA:=ze Ha;have bd:=ze cx;clear Ha cx bh aJ bX bR d5;go_wp2_with fail;have bu:((w1.setCell (U w.1.size 6) (I t.ep)).setCell (U w.1.size 7) (I t.num)).1[w.1.size]?=J (.cells (qZz W o t.ep t.num) 82 (0,0)):=xq (i:=7) (xq (i:=6) HA _) _;have aF:=bd.size;have bx:B_ w (((w1.setCell (U w.1.size 6) (I t.ep)).setCell (U w.1.size 7) (I t.num)).alloc (.cells #[I t.ep,I t.num] 49)):=(((ud bd).setCell (p:=(U w.1.size 6)) (Nat.le_refl _) _).setCell (p:=(U w.1.size 7)) (Nat.le_refl _) _).alloc (by simpa[World.setCell]using aF) _;have bv:((w1.setCell (U w.1.size 6) (I t.ep)).setCell (U w.1.size 7) (I t.num)).1.size=w1.1.size:=by simp[World.setCell]
 have bU:=ze ((Below.heap_alloc _ (.cells #[I t.ep,I t.num] 49) _ (zd bu)).trans bu);have bw:=zo ((w1.setCell (U w.1.size 6) (I t.ep)).setCell (U w.1.size 7) (I t.num)) (.cells #[I t.ep,I t.num] 49);rw[bv]at bw;have c0:=ze bw;have c5:(((w1.setCell (U w.1.size 6) (I t.ep)).setCell (U w.1.size 7) (I t.num)).alloc (.cells #[I t.ep,I t.num] 49)).1.size=w1.1.size+1:=by rw[zE,bv]
 have bF:=ze (ud bG _ bx);have aI:=ze bx;have dt:=ze c5;clear a0 a1 a2 a3 a4 a5 a6 a7 a8 a9 cP cQ cR cS cT af bu bv bw bx c5 aF bG;generalize(((w1.setCell (U w.1.size 6) (I t.ep)).setCell (U w.1.size 7) (I t.num)).alloc (.cells #[I t.ep,I t.num] 49))=X at*;refine bF.mono ?_;rintro e V ⟨jb,y,m',rfl,cf,bo,M⟩;obtain⟨rm',aD,ar⟩:=ud bI jb y m' M;have cV:(y==13)=false:=by simpa using ud aR jb y m' M
 have av:(W==6)=false\/(W==6)=true/\(y==0)=false\/(W==6)=true/\(y==0)=true:=by cases W==6<;>cases y==0<;>simp
 rcases av with bp|⟨bp,bj⟩|⟨bp,bj⟩;all_goals
  have bO:=ze cf
  have cI:=ze bo
  have b3:zj (mft i fs) X V:=by have h9:=ai.kept aI bo;intros;exact(show zj (mft i fs) X V from by rw[<-ud bL];exact h9)
  have aa:=ze b3
  have ag:=ze M
  have aV:=ze aD
  have ah:=ze ar
  have ce:∀k,mft i fs k->k<w.1.size:=ud cE
  have cg:¬mft i fs w.1.size:=fun e=>by have:=ce _ e;omega
  have aF:=bd.size
  have ch:¬mft i fs w1.1.size:=fun e=>by have:=ce _ e;omega
  clear cf bo b3 bF M aD ar bI aR
  have bk:i.d<V.1.size:=Nat.lt_of_lt_of_le ai.d (Nat.le_trans aI.size aa.size)
  have R:zj (mft i fs) w V:=(zj.of_below aI).trans aa (fun _ _ h=>h)
  have C:zj (mft i fs) w (V.alloc (.cells (yZz jb) 51)):=R.alloc _
  have ap:B_ V (V.alloc (.cells (yZz jb) 51)):=(Below.refl _ _).alloc (Nat.le_refl _) _
  have aO:=R.heap bN co
  have p1:V.cell? (U po 1)=J (O d):=by unfold zL at aO;rw[xd aO];rfl
  have cn:=zd aO
  have c3:=Qb ap bk
  have bM:Hid (∀k,fsB (V.alloc (.cells (yZz jb) 51)) i.d=J k->fs=J k\/w.1.size<=k):=fun k a=>by rw[<-ud bL];exact(ai.kx aI cI).fs k (c3.symm.trans a)
  have bK:Hid (i.d<(V.alloc (.cells (yZz jb) 51)).1.size):=Nat.lt_of_lt_of_le bk ap.size
  have an:=ze ((bO.later ap).stopped)
  rw[<-ud cD]at an
  have cN:=ze (cM.kept C (fun k a=>ud b8 k (.inr (.inr (.inr (.inr a))))))
  have c2:=ze (zi bQ C (fun k a=>ud b8 k (.inr (.inr (.inl a)))))
  have aW:=ze (zi bZ C (fun k a=>ud b8 k (.inr (.inr (.inr (.inl a))))))
  have bP:=ze (bO.later ap)
  have al:=ze (C.heap bN co)
  have ba:=ze C
  have aH:=ze ((Below.heap_alloc _ (.cells (yZz jb) 51) _ (zd (aa.heap bU cg))).trans (aa.heap bU cg))
  have c1:=ze ((Below.heap_alloc _ (.cells (yZz jb) 51) _ (zd (aa.heap c0 ch))).trans (aa.heap c0 ch))
  have aG:=ze (zo V (.cells (yZz jb) 51))
  have c4:(V.alloc (.cells (yZz jb) 51)).1.size=V.1.size+1:=zE _ _
  have dB:=R.size
  clear R C ap aO bk c3
  go_wp2_with fail
  have ds:=ze c4
  clear p1 cn c4
  generalize(V.alloc (.cells (yZz jb) 51))=Y at*
  refine an.mono ?_
  rintro e Y1 ⟨rfl,c6⟩
  rw[c6]
  clear c6 an
  obtain⟨mb,b7,bq,_,dl⟩:=c2.form (by omega)
  have aB:=ud al
  have dh:Y.cell? (U po 13)=J (.bool false):=by unfold zL at aB;rw[xd aB];rfl
  have p9:Y.cell? (U po 9)=J (.slice (J (U mb 0)) 1 b7):=by unfold zL at aB;rw[xd aB,bq];rfl
  have d2:Y.cell? (U mb 0)=J (O r):=by
   have:=ud c2;rw[bq]at this;rw[this.cellAt 0 (by omega)];rfl
  clear aB
  go_wp2_with fail
  refine wp_loop_rounds 2 ?_
  rw[rounds_succ]
  have bH:=ze (zju cN am.hokr (by have:=am.len;omega) (by have:=am.glen;omega) (by have:=am.plen;omega) (by have:=am.klen;omega))
  go_wp2_with fail
  refine bH.mono ?_
  rintro e Z ⟨q,rfl,bC,db,di,cU,da,bs,ac,aY⟩
  have cm:=(ac.block w.1.size (zd aH)).trans aH
  have cv:=(ac.block w1.1.size (zd c1)).trans c1
  obtain⟨o0,o1,o2,o3,o4,o5,o6,o7,o8,o9,dc,dd,de,df,dg,-⟩:=zc cm
  obtain⟨t0,t1,-⟩:=zc cv
  have bJ:=ze (ud ah Y.1.size q Z bC db di cU da bs aY ac.size)
  have bb:=ze (zjy bs)
  have b9:=ze ac
  have cz:=ac.size
  clear cm cv bs ac bH aY ah
  go_wp2_with fail
  refine bJ.mono ?_
  rintro e U9 ⟨rfl,bt⟩
  have c7:Below Y.1.size Z U9:=bt.kept.below cz (fun k e=>(ud bb k e).1)
  have aq:B_ Y U9:=b9.trans c7
  have bn:=(aq.block V.1.size (zd aG)).trans aG
  obtain⟨j0,j1,j2,j3,j4,j5,j6,j7,j8,j9,d7,-⟩:=zc bn
  have dx:=zd bn
  have bW:=ze bt
  have L:=ze aq
  have cZ:0<1:=by decide
  have d0:0+1<=maxLen:=by simp[maxLen]
  have d1:(0+1)*8<=140737488355328:=by omega
  clear bt c7 aq bn bJ o0 o1 o2 o3 o4 o5 o6 o7 o8 o9 dc dd de df dg t0 t1
  go_wp2_with(first|(at_builtin;refine zO rfl _ _ 135 rfl 0 138 _ 1 8 underlying135 Tryz.infoRefP rfl (by decide) (.slice none 0 0) 0 [] rfl (World.ownsRow_nil _ _ _ _) (U (U9.1.size+1) 0) 1 1 [(O q)] rfl rfl (World.news_of_block (cs:=#[(O q)]) (heap_second U9 _ _)) (by intro u hu;simp at hu;subst hu;rfl) cZ d0 d1 (Nat.zero_le _) ?_;intro g b n ay br Q aZ dj;have bS:=ze ay;have cF:=ze Q;have cA:=ze aZ;clear ay br Q aZ)|go_in)
  have bi:=(L.alloc L.size (.cells (yZz jb) 51)).alloc (by have:=L.size;simp;omega) (.cells #[(O q)] 138)
  have bl:((U9.alloc (.cells (yZz jb) 51)).alloc (.cells #[(O q)] 138)).grownBy n none:=ud cF
  have F:B_ Y n:=bi.grown bl bi.size (fun k e=>by cases e)
  have aK:B_ U9 ((U9.alloc (.cells (yZz jb) 51)).alloc (.cells #[(O q)] 138)):=(box2 U9 _ _).2.2.1
  have b1:B_ U9 n:=aK.grown bl aK.size (fun k e=>by cases e)
  have ad:=(F.block po (zd al)).trans al
  have cl:=(F.block w.1.size (zd aH)).trans aH
  have bm:=(F.block V.1.size (zd aG)).trans aG
  have k9:n.cell? (U po 9)=J (.slice (J (U mb 0)) 1 b7):=by have v:=ad;unfold zL at v;rw[xd v,bq];rfl
  have d8:n.cell? (U po 11)=J td:=by have v:=ad;unfold zL at v;rw[xd v];rfl
  have d9:∀j,n.frozen? (U po j)=false:=fun j=>by have v:=ad;unfold zL at v;exact zI v j
  obtain⟨k0,-⟩:=zc cl
  obtain⟨-,-,-,-,-,-,-,k7,k8,-⟩:=zc bm
  have cp:=zd ad
  have au:=zd bm
  have dy:¬w.1.size=po:=by omega
  have dn:¬po=w.1.size:=by omega
  have ci:¬V.1.size=po:=by omega
  have dm:¬po=V.1.size:=by omega
  have ab:=ze ad
  have l:=ze F
  have aS:=ze b1
  have dw:U9.1.size<=g:=by
   rcases ud cA with h|h
   ·cases h
   ·rw[h];exact aK.size
  have dv:w.1.size<=Y.1.size:=ba.size
  have du:Y.1.size<=U9.1.size:=L.size
  have cr:(n.setCell (U po 9) (.slice (J (U g 0)) 1 b)).1[po]?=J (zL i.x d c ct (.slice (J (U g 0)) 1 b) td ep):=by
   have v:=ud ab;unfold zL at v ⊢;exact xq (i:=9) v _
  have cb:zj (fun k=>k=po) n (n.setCell (U po 9) (.slice (J (U g 0)) 1 b)):=zk (zj.refl _ _) rfl
  have bc:=ze cr
  have z:=ze cb
  clear bi bl F aK b1 ad cl bm cr cb j0 j1 j2 j3 j4 j5 j6 j7 j8 j9 d7 dh p9 d2
 rotate_left 2
 ·obtain⟨d4,ao⟩:=ud cK (by simpa using bp);have aN:zj (fun k=>mft i fs k\/k=po\/td.ownBlock=J k) w n:=(ba.mono (fun _ _ h=> .inl h)).trans (zj.of_below (f:=fun _=>False) l) (fun _ _ h=>h.elim);have A:=bP.later l;have D:=A.not_post ab;have aL:=A.dlt;have ax:=A.ne_d D;have G:=zi aW (zj.of_below (f:=fun _=>False) l) (fun _ _ h=>h);obtain⟨bA,bB,bf,bz,aP,N,ca,S⟩:=ud bW;have aQ:=aP.later aS;have d6:Y.1.size<=Z.1.size:=b9.size;have aC:∀k,jI q bC bA bB bf bz k->Y.1.size<=k:=fun k a=>by
   rcases S k a with h|h
   ·exact(ud bb k h).1
   ·omega
  have cq:po<Y.1.size:=zd al;have cu:=zi G (ud z) (fun k a e=>xV (ud ab) G (by decide) (e▸a));have cy:(n.setCell (U po 9) (.slice (J (U g 0)) 1 b)).1.size=n.1.size:=by simp[World.setCell]
  have cJ:Hid (¬td.ownBlock=J po):=fun e=>xV (ud ab) G (by decide) e;have cY:th.length+1<=maxLen:=by simp only[maxLen];omega
  have aj:=ze A;have aT:=ze D;have bY:=ze G;have cC:=ze aL;have cO:=ze cu;have cL:=ze aQ;have aU:=ze aC;have cH:=ze aN;have bE:=ze N;have be:=ze cy;clear A D aL ax G cu aP aQ aC aN N ca S cy;rw[rounds_succ];go_wp2_with fail;have t7:(n.setCell (U po 9) (.slice (J (U g 0)) 1 b)).cell? (U V.1.size 7)=J (I jb.ep):=(zD z ci au).trans k7;have t8:(n.setCell (U po 9) (.slice (J (U g 0)) 1 b)).cell? (U V.1.size 8)=J (I jb.num):=(zD z ci au).trans k8;have dE:(n.setCell (U po 9) (.slice (J (U g 0)) 1 b)).cell? (U po 11)=J td:=by have v:=ud bc;unfold zL at v;rw[xd v];rfl
  have dG:po<(n.setCell (U po 9) (.slice (J (U g 0)) 1 b)).1.size:=by rw[ud be];exact cp
  have dF:V.1.size<(n.setCell (U po 9) (.slice (J (U g 0)) 1 b)).1.size:=by rw[ud be];exact au
  clear k7 k8 k9 d8 k0 d9;generalize hT:(n.setCell (U po 9) (.slice (J (U g 0)) 1 b))=T at*;have dr:=ze hT;clear hT;go_region_law (refine Vh rfl (.tmp 139) (.tmp 142) 41 49 2 16 rfl underlying41 Tryz.infoTokL rfl (by decide) 0 td th.length (th.flatMap zoE) (by simp[Act.eval]) (ZT ((ud cO).alloc _)) T.1.size [I jb.ep,I jb.num] 49 (0,0) (by simp[Act.eval]) (ZS T _) rfl (by simp[Value.oneCell']) cY d4 (Nat.zero_le _) ?_;intro g6 s W6 az P b0 dk;have av:zj (fun k=>td.ownBlock=J k) T W6:=zj.grown ((zj.refl _ _).alloc _) (Z1 P) (fun k a _=>a);have aA:=av.heap bc cJ;have dC:W6.cell? (U po 11)=J td:=(by have v:=aA;unfold zL at v;rw[xd v];rfl);have dD:∀j,W6.frozen? (U po j)=false:=(fun j=>by have v:=aA;unfold zL at v;exact zI v j);have dp:=zd aA;have bV:=ze aA;have cG:=ze av;have bT:=ze az;have cB:Hid (td.ownBlock=J g6\/T.1.size<=g6):=(by rcases b0 with h|h;exact .inl h;right;rw[h];show T.1.size<=(T.alloc _).1.size;rw[zE];omega);clear az P b0 av aA)
  all_goals
   go_wp2_with fail
   go_ret
   have d3:(W6.setCell (U po 11) (.slice (J (U g6 0)) (th.length+1) s)).1[po]?=J (zL i.x d c ct (.slice (J (U g 0)) 1 b) (.slice (J (U g6 0)) (th.length+1) s) ep):=by
    have v:=ud bV;unfold zL at v ⊢;exact xq (i:=11) v _
   have cX:zj (fun k=>k=po\/td.ownBlock=J k) n T:=z.mono (fun _ _ e=> .inl e)
   have aw:zj (fun k=>k=po\/td.ownBlock=J k) n (W6.setCell (U po 11) (.slice (J (U g6 0)) (th.length+1) s)):=zk (cX.trans cG (fun k _ e=> .inr e)) (.inl rfl)
   have hZ:zj (fun k=>mft i fs k\/k=po\/td.ownBlock=J k) w (W6.setCell (U po 11) (.slice (J (U g6 0)) (th.length+1) s)):=cH.trans aw (fun k _ e=> .inr e)
   have cc:zj (fun k=>k=po) W6 (W6.setCell (U po 11) (.slice (J (U g6 0)) (th.length+1) s)):=zk (zj.refl _ _) rfl
   have cw:∀k,td.ownBlock=J k->k<w.1.size:=zjH bZ
   have cj:∀k,Y.1.size<=k->¬(k=po\/td.ownBlock=J k):=fun k a e=>by
    rcases e with e|e
    ·omega
    ·have:=cw k e;omega
   have cW:td.ownBlock=J g6\/w.1.size<=g6:=by
    rcases ud cB with h|h
    ·exact .inl h
    ·right;have h1:=ud be;have:=l.size;omega
   obtain⟨s1,s2,s3⟩:=(ud H).step (Z:=W6.setCell (U po 11) (.slice (J (U g6 0)) (th.length+1) s)) (q:=q) (B':=Y.1.size) (mv':=.slice (J (U g 0)) 1 b) (td':=.slice (J (U g6 0)) (th.length+1) s) (m':=m') (rm':=rm') (toks':=th++[⟨jb.ep,jb.num⟩]) hZ (fun k a=>ud bM k ((Qb (ud l) (ud bK)).symm.trans ((ji aw (ud cC) (fun e=>e.elim ((ud aj).ne_d (ud aT)) (fun e=>(ud aj).ne_d ((ud aj).not_row (ud bY) (by decide) e) rfl))).symm.trans a))) d3
    (aj.kept aw (fun k a e=>by
     rcases e with e|e
     ·exact ud aT (by rw[<-e];exact a)
     ·exact(ud aj).not_row (ud bY) (by decide) e a) (fun e=>e.elim (fun e=>ud ak po (.inl rfl) e.symm) (fun e=>ud ak _ (.inr (.inr (.inr (.inl e)))) rfl))) (zi (ud bS) aw (fun k a e=>by have hg:g=k:=Option.some.inj a;exact cj k (by omega) e)) (fun k a=>by have hg:g=k:=Option.some.inj a;omega)
    (by
     have h1:=zi bT cc (fun k a e=>by
      subst e;exact xV (ud bV) (ud bT) (by decide) a)
     rw[Km,List.length_append];exact h1) (fun k a=>by have hg:g6=k:=Option.some.inj a;rw[<-hg];exact cW) (cL.kept aw (fun k a e=>cj k (ud aU k a) e)) (fun k a=> .inr (by have:=ud aU k a;omega)) bE aV (fun x hx=>by
     rcases List.mem_append.1 hx with hx|hx
     ·exact H.twf x hx
     ·rw[List.mem_singleton.1 hx];exact ao jb y m' ag)
   exact⟨rfl,_,s1,rfl,rfl,rfl,rfl,by simp,⟨jb,y,ud ag⟩,s2,s3⟩
 all_goals
  rw[rounds_succ]
  go_wp2_with fail
  go_ret
  have aN:zj (fun k=>mft i fs k\/k=po\/td.ownBlock=J k) w n:=(ba.mono (fun _ _ h=> .inl h)).trans (zj.of_below (f:=fun _=>False) l) (fun _ _ h=>h.elim)
  have A:=bP.later l
  have D:=A.not_post ab
  have aL:=A.dlt
  have ax:=A.ne_d D
  have G:=zi aW (zj.of_below (f:=fun _=>False) l) (fun _ _ h=>h)
  obtain⟨bA,bB,bf,bz,aP,N,ca,S⟩:=ud bW
  have aQ:=aP.later aS
  have d6:Y.1.size<=Z.1.size:=b9.size
  have aC:∀k,jI q bC bA bB bf bz k->Y.1.size<=k:=fun k a=>by
   rcases S k a with h|h
   ·exact(ud bb k h).1
   ·omega
  have cq:po<Y.1.size:=zd al
  have hZ:zj (fun k=>mft i fs k\/k=po\/td.ownBlock=J k) w (n.setCell (U po 9) (.slice (J (U g 0)) 1 b)):=aN.trans z (fun k _ e=> .inr (.inl e))
  obtain⟨s1,s2,s3⟩:=H.step (Z:=(n.setCell (U po 9) (.slice (J (U g 0)) 1 b))) (q:=q) (B':=Y.1.size) (mv':=.slice (J (U g 0)) 1 b) (td':=td) (m':=m') (rm':=rm') (toks':=th) hZ (fun k a=>ud bM k ((Qb l bK).symm.trans ((ji z aL ax).symm.trans a))) bc
   (A.kept (ud z) (fun k a e=>D (by rw[<-e];exact a)) (fun e=>ud ak po (.inl rfl) e.symm)) (zi bS z (fun k a e=>by have hg:g=k:=Option.some.inj a;omega)) (fun k a=>by have hg:g=k:=Option.some.inj a;omega)
   (zi G (ud z) (fun k a e=>xV (ud ab) G (by decide) (e▸a))) (fun k a=> .inl a) (aQ.kept (ud z) (fun k a e=>by have:=aC k a;omega)) (fun k a=> .inr (by have:=aC k a;omega)) N aV H.twf
  exact⟨rfl,_,s1,rfl,rfl,rfl,rfl,Nat.le_succ _,⟨jb,y,ag⟩,s2,s3⟩
