import Derived.Test.YtpbimdkclnekeaaGreatVSrt0
open Go.Value renaming int → I
open Go.IntKind renaming i64 → J
open Option renaming none → O
open Option renaming some → E
open Nat renaming lt_of_lt_of_le → Q
open Nat renaming le_refl → Y
open Go.RowKit renaming Below → Z
open Go.RowKit.Below renaming refl → N
set_option linter.unusedVariables false
set_option maxRecDepth 20000
set_option maxHeartbeats 8000000
open Go.Proofs.Tryz
namespace Go.Proofs.YtpbimdkclnekeaaGreat
open Go.ChangeMaps (setBlock)
open Go.RowKit Go.Maps Go.Shelf
def QI(c:Cf)(now:Int)(a:Bool)(QL:List (Tok×Lse))(TL:List (Jk×Tsk))(x:Tsk):Prop:=∀q∈TL,kw QL now q.2=true->¬YJ c now a q.2 x<0
theorem Jd{c:Cf}{now:Int}{a:Bool}{l:List (zhd c now)}{g:zhd c now}(h:jE (fun x y:zhd c now=>YJ c now a x.1 y.1) l=E g):∀x∈l,¬YJ c now a x.1 g.1<0:=by
 cases l with
 |nil=>simp[jE]at h
 |cons f l=>
  obtain⟨d,e⟩:=Zy (fun x y:zhd c now=>YJ c now a x.1 y.1) (fun x y z=>zfH c now a x.1 y.1 z.1) (fun x=>zbd c now a x.1) (fun x y=>zfG c now a x.1 y.1) l f g h
  intro x b
  rcases List.mem_cons.1 b with rfl|b
  ·exact d
  ·exact e x b
theorem zcJ{w:World}{b:Nat}{c:Cf}{a:Option Addr}{cap:Nat}{ep num:Int}{tb qb:Nat}{TL:List (Jk×Tsk)}{QL:List (Tok×Lse)}(h:zM w b c (.slice a c.n cap) ep num tb qb TL QL)(hc:c.ok)(bL:TS w a c.n c.F c.W c.K)(slot now:Int)(v:Bool)(l:0<=now/\now<=100000)(hT:∀p∈TL,KS c now p.2)(bK:QL.length<=100000)(b0:0<=num/\num<=1000000000000000)(bH:yS ep)(ct:∀q∈QL,q.1.num<=num):
  Calls prog 39 #[.pointer (E ⟨b,0,O⟩),I J slot,I J now,.bool v] w fun e w'=>(e=.returned (.tuple #[.agg #[I J 0,I J 0,I J 0,I J 0,I J 0,I J 0,I J 0,I J 0,I J 0,I J 0,I J 0],.bool false])/\Z w.1.size w w'/\∀p∈TL,kw QL now p.2=false)\/∃p,p∈TL/\kw QL now p.2=true/\QI c now v QL TL p.2/\e=.returned (.tuple #[.agg #[I J p.2.kd,I J p.2.s.t,I J p.2.s.se,I J p.2.s.we,I J p.2.si,I J p.2.tc,I J p.2.rest,I J ep,I J (num+1),I J slot,I J (now+c.le)],.bool true])/\zM w' b c (.slice a c.n cap) ep (num+1) tb qb TL (qt QL ⟨ep,num+1⟩ ⟨p.2.kd,p.2.s,slot,now+c.le⟩)/\zk (fun k=>k=b\/k=qb) w w':=by
 have cq:=h.lt
 obtain⟨y0,y1,y2,aG,yz⟩:=zey w (.cells #[.pointer (E ⟨b,0,O⟩)] 82) (.cells #[I J now] 3) (.cells #[I J 0,I J 0,I J 0,I J 0,I J 0,I J 0,I J 0,I J 0,I J 0,I J 0,I J 0] 51)
 have hX:=h.later aG
 have x9:=hX.cell9
 have cp:=hX.lt
 obtain⟨m0,-⟩:=zc y0
 obtain⟨m1,-⟩:=zc y1
 have bx:=ze (zfb tb (((w.alloc (.cells #[.pointer (E ⟨b,0,O⟩)] 82)).alloc (.cells #[I J now] 3)).alloc (.cells #[I J 0,I J 0,I J 0,I J 0,I J 0,I J 0,I J 0,I J 0,I J 0,I J 0,I J 0] 51)))
 have Y0:=ze y0
 have Y1:=ze y1
 have Y2:=ze y2
 have av:=ze aG
 have YZ:=ze yz
 have H:=ze h
 have aH:=zd y0
 have aI:=zd y1
 clear h hX y0 y1 y2 aG yz
 go_enter func39,ntmps39
 go_wp2_with fail
 generalize(((w.alloc (.cells #[.pointer (E ⟨b,0,O⟩)] 82)).alloc (.cells #[I J now] 3)).alloc (.cells #[I J 0,I J 0,I J 0,I J 0,I J 0,I J 0,I J 0,I J 0,I J 0,I J 0,I J 0] 51))=X at*
 refine(ud bx).mono ?_
 rintro e R ⟨rfl,ag⟩
 have ah:Z X.1.size X R:=by rw[ag];exact(N _ _).alloc (Y _) _
 have aX:R.1[X.1.size]?=E (.cells #[.map (E tb)] 154 (0,0)):=by rw[ag];exact zo _ _
 have ba:R.1.size=X.1.size+1:=by rw[ag];exact zF _ _
 have bz:=ze (zkj 133 #[.pointer (E ⟨X.1.size,0,O⟩)] 83 #[] #[.pointer (E ⟨w.1.size+1,0,O⟩),.pointer (E ⟨w.1.size,0,O⟩)] R)
 have n0:=(ah.cell (p:=⟨w.1.size,0,O⟩) aH).trans m0
 have n1:=(ah.cell (p:=⟨w.1.size+1,0,O⟩) aI).trans m1
 have S:=ze ah
 have bm:=ze aX
 have bB:=ze ba
 clear ag ah aX ba m0 m1 x9
 go_wp2_with fail
 refine(ud bz).mono ?_
 rintro e V ⟨rfl,aT⟩
 obtain⟨b9,b1,ai,bb⟩:V.1[R.1.size]?=E (.cells #[.func (.func 133) #[] #[.pointer (E ⟨X.1.size,0,O⟩)]] 159 (0,0))/\V.1[R.1.size+1]?=E (.cells #[.func (.func 83) #[] #[.pointer (E ⟨w.1.size+1,0,O⟩),.pointer (E ⟨w.1.size,0,O⟩)]] 164 (0,0))/\Z R.1.size R V/\V.1.size=R.1.size+2:=by rw[aT];exact box2 R _ _
 have ao:=Q aH (ud S).size
 have ap:=Q aI (ud S).size
 have q0:=(ai.cell (p:=⟨w.1.size,0,O⟩) ao).trans n0
 have q1:=(ai.cell (p:=⟨w.1.size+1,0,O⟩) ap).trans n1
 have bu:=ze b9
 have bq:=ze b1
 have a7:=ze ai
 have bC:=ze bb
 clear aT b9 b1 ai bb n0 n1
 go_wp2_with fail
 have bp:=ze (zfI b now v V)
 refine(ud bp).mono ?_
 rintro e X3 ⟨rfl,hO,a1,bM⟩
 have aj:Z w.1.size w V:=(ud av).trans (((ud S).mono (ud av).size).trans ((ud a7).mono (by have:=(ud S).size;have:=(ud av).size;omega)))
 have a3:=aj.trans (a1.mono aj.size)
 have hZ:X.1.size=w.1.size+3:=ud YZ
 have bF:R.1.size=X.1.size+1:=ud bB
 have bG:V.1.size=R.1.size+2:=ud bC
 have az:=(ud H).later aj
 have an:=((ud a7).block _ (by omega)).trans (ud bm)
 have am:=((ud a7).block _ ap).trans (((ud S).block _ aI).trans (ud Y1))
 have al:=((ud a7).block _ ao).trans (((ud S).block _ aH).trans (ud Y0))
 have aa:=zkI (fun x:zhd c now=>x.1) (zko c now l.1) (ex:=fun _=>False) (n:=V.1.size) X.1.size tb TL (fun p hp=>Xd l.1 (hT p hp)) V (fun e=>e) (by omega) (by rw[zN an];rfl) az.tg
 have ab:=zgY (fun x:zhd c now=>x.1) 133 #[.pointer (E ⟨X.1.size,0,O⟩)] ziE 83 #[] #[.pointer (E ⟨w.1.size+1,0,O⟩),.pointer (E ⟨w.1.size,0,O⟩)] JJ (fun x=>kw QL now x.1) R.1.size (R.1.size+1) V (Y _) ⟨by omega,fun e=>e⟩ ⟨by omega,fun e=>e⟩ (ud bu) (ud bq)
  (fun x W ⟨m,A⟩=>by
   have aF:=Qy A (Y _)
   have g1:=(aF.block _ (by omega)).trans am
   have g0:=(aF.block _ (by omega)).trans al
   exact zfP (az.later aF) x.1 now bK (w.1.size+1) w.1.size (zd g1) (zd g0) (by rw[zN g1];rfl) (by rw[zN g0];rfl)) aa
 have HF:=ze (zcS (fun x:zhd c now=>x.1) 132 #[.pointer (E ⟨R.1.size,0,O⟩),.pointer (E ⟨R.1.size+1,0,O⟩)] zkg 136 #[.pointer (E ⟨V.1.size+2,0,O⟩),.pointer (E ⟨V.1.size+3,0,O⟩)] JE (fun x y=>YJ c now v x.1 y.1) X3 (Nat.le_trans (Y _) a1.size)
  (fun x y W hW=>zdt ((ud H).later (a3.trans (hW.mono a3.size))) hc (bL.below (a3.trans (hW.mono a3.size))) now l v V.1.size (hO.later hW) x.1 y.1 x.2 y.2)
  (ab.later a1))
 have r2:=(a3.block)
 have af:=ze a3
 have bP:w.1.size<V.1.size:=by omega
 have bQ:w.1.size+1<V.1.size:=by omega
 have bj:=(a1.cell (p:=⟨w.1.size,0,O⟩) bP).trans q0
 have bk:=(a1.cell (p:=⟨w.1.size+1,0,O⟩) bQ).trans q1
 have b3:=(a1.block (w.1.size+2) (by omega)).trans (((ud a7).block _ (by omega)).trans (((ud S).block _ (by omega)).trans (ud Y2)))
 have br:=ze b3
 have aV:w.1.size+2<X3.1.size:=by omega
 clear aj a3 az an am al aa ab hO a1 r2 q0 q1 b3 hZ bF bG bM
 go_wp2_with fail
 refine(ud HF).mono ?_
 rintro e d ⟨xs,hS,rfl,a2⟩
 have bR:w.1.size<X3.1.size:=by omega
 have bS:w.1.size+1<X3.1.size:=by omega
 have z0:=(a2.cell (p:=⟨w.1.size,0,O⟩) bR).trans bj
 have z1:=(a2.cell (p:=⟨w.1.size+1,0,O⟩) bS).trans bk
 have b4:=(a2.block _ aV).trans (ud br)
 have a0:=(ud H).later ((ud af).trans (a2.mono (ud af).size))
 have r:=ze b4
 have au:=ze a0
 have ay:=ze ((ud af).trans (a2.mono (ud af).size))
 have cn:=a2.size
 have aw:=ze hS
 clear HF bj bk b4 a0 a2 hS
 rcases zeR (fun x y:zhd c now=>YJ c now v x.1 y.1) xs with⟨aZ,hf⟩|⟨g,hg,hf⟩
 ·rw[hf]
  dsimp only[Option.map_none,YQ,Option.isSome_none]
  have bi:w.1.size+2<d.1.size:=by omega
  have b5:=(Below.heap_alloc d (.cells #[.nilIface,I J 0,I J 0,I J 0] 162) (w.1.size+2) bi).trans (ud r)
  have e0:d.cell? ⟨w.1.size+1+1,0,O⟩=E (I J 0):=by rw[show w.1.size+1+1=w.1.size+2 from rfl,zN (ud r)];rfl
  have e1:d.cell? ⟨w.1.size+1+1,1,O⟩=E (I J 0):=by rw[show w.1.size+1+1=w.1.size+2 from rfl,zN (ud r)];rfl
  have e2:d.cell? ⟨w.1.size+1+1,2,O⟩=E (I J 0):=by rw[show w.1.size+1+1=w.1.size+2 from rfl,zN (ud r)];rfl
  have e3:d.cell? ⟨w.1.size+1+1,3,O⟩=E (I J 0):=by rw[show w.1.size+1+1=w.1.size+2 from rfl,zN (ud r)];rfl
  have e4:d.cell? ⟨w.1.size+1+1,4,O⟩=E (I J 0):=by rw[show w.1.size+1+1=w.1.size+2 from rfl,zN (ud r)];rfl
  have e5:d.cell? ⟨w.1.size+1+1,5,O⟩=E (I J 0):=by rw[show w.1.size+1+1=w.1.size+2 from rfl,zN (ud r)];rfl
  have e6:d.cell? ⟨w.1.size+1+1,6,O⟩=E (I J 0):=by rw[show w.1.size+1+1=w.1.size+2 from rfl,zN (ud r)];rfl
  have e7:d.cell? ⟨w.1.size+1+1,7,O⟩=E (I J 0):=by rw[show w.1.size+1+1=w.1.size+2 from rfl,zN (ud r)];rfl
  have e8:d.cell? ⟨w.1.size+1+1,8,O⟩=E (I J 0):=by rw[show w.1.size+1+1=w.1.size+2 from rfl,zN (ud r)];rfl
  have e9:d.cell? ⟨w.1.size+1+1,9,O⟩=E (I J 0):=by rw[show w.1.size+1+1=w.1.size+2 from rfl,zN (ud r)];rfl
  have bE:d.cell? ⟨w.1.size+1+1,10,O⟩=E (I J 0):=by rw[show w.1.size+1+1=w.1.size+2 from rfl,zN (ud r)];rfl
  have ef:=fun j=>zD (show d.1[w.1.size+1+1]?=_ from ud r) j
  have cv:w.1.size+1+1<d.1.size:=bi
  have co:=ze b5
  clear b5 hf
  go_wp2_with fail
  have aS:=kH (ud r) (I J 0) (I J 0) (I J 0) (I J 0) (I J 0) (I J 0) (I J 0) (I J 0) (I J 0) (I J 0) (I J 0)
  have hf:=(Below.heap_alloc _ (.cells #[.nilIface,I J 0,I J 0,I J 0] 162) _ (zd aS)).trans aS
  refine bodyPost_ret (zj results39 _ _ (w.1.size+2) _ _ _ _ _ rfl rfl hf underlying51 rfl (by kernel_rfl)) rfl ?_
  left
  refine⟨rfl,((ud ay).trans (KZ (by omega) (I J 0) (I J 0) (I J 0) (I J 0) (I J 0) (I J 0) (I J 0) (I J 0) (I J 0) (I J 0) (I J 0))).alloc (Nat.le_trans (ud ay).size (KZ (B:=0) (Nat.zero_le _) (I J 0) (I J 0) (I J 0) (I J 0) (I J 0) (I J 0) (I J 0) (I J 0) (I J 0) (I J 0) (I J 0)).size) _,fun p hp=>?_⟩
  obtain⟨zs,⟨ps,a5,rfl⟩,a6⟩:=ud aw
  rw[aZ]at a6
  cases bI:kw QL now p.2 with
  |false=>rfl
  |true=>
   have:zko c now l.1 p.2∈(ps.map (fun p:Jk×Tsk=>zko c now l.1 p.2)).filter (fun x=>kw QL now x.1):=List.mem_filter.2 ⟨List.mem_map.2 ⟨p,a5.mem_iff.2 hp,rfl⟩,by rw[Xd l.1 (hT p hp)];exact bI⟩
   rw[<-a6]at this;simp at this
 ·rw[hf]
  dsimp only[Option.map_some,YQ,Xp,Option.isSome_some]
  have aN:Hid (QI c now v QL TL g.1):=fun q hq bJ=>by
   obtain⟨zs,⟨ps,a5,rfl⟩,a6⟩:=ud aw
   have aY:zko c now l.1 q.2∈xs:=by rw[a6];exact List.mem_filter.2 ⟨List.mem_map.2 ⟨q,a5.mem_iff.2 hq,rfl⟩,by rw[Xd l.1 (hT q hq)];exact bJ⟩
   have:=Jd hf _ aY
   rw[Xd l.1 (hT q hq)]at this
   exact this
  obtain⟨x,hx⟩:=g
  have aO:Hid (∃p,p∈TL/\p.2=x/\kw QL now x=true):=by
   obtain⟨zs,⟨ps,a5,rfl⟩,a6⟩:=ud aw
   rw[a6]at hg
   obtain⟨h1,h2⟩:=List.mem_filter.1 hg
   obtain⟨p,hp,e⟩:=List.mem_map.1 h1
   have e2:=congrArg Subtype.val e
   rw[Xd l.1 (hT p (a5.mem_iff.1 hp))]at e2
   exact⟨p,a5.mem_iff.1 hp,e2,h2⟩
  have bo:Hid (∀q∈QL,q.2.job≠x.key):=fun q hq e=>by
   obtain⟨p,hp,b2,a9⟩:=ud aO
   unfold kw kq at a9
   simp only[Bool.and_eq_true,Bool.not_eq_true',List.any_eq_false]at a9
   exact a9.2 q hq (by simpa[Lse.job]using e)
  have a0:=ud au
  have hd:=a0.head
  have bT:w.1.size<d.1.size:=by omega
  have bU:w.1.size+1<d.1.size:=by omega
  have cw:=a0.lt
  have cA:¬b=w.1.size:=by omega
  have cB:¬b=w.1.size+1:=by omega
  have bV:¬w.1.size=b:=by omega
  have bW:¬w.1.size+1=b:=by omega
  obtain⟨v0,v1,v2,v3,v4,v5,v6,v7,v8,v9,ci,-⟩:=zc hd
  have bf:=fun j=>zD hd j
  obtain⟨cr,cs⟩:=b0
  clear hf hd
  have aA:=(a0.setNum (num+1)).later ((N _ _).alloc (Y _) (.cells #[.iface x.jt (.agg #[I J x.s.t,I J x.s.se,I J x.s.we]),I J x.si,I J x.tc,I J x.rest] 162))
  have aE:=zF (d.setCell ⟨b,8,O⟩ (I J (num+1))) (.cells #[.iface x.jt (.agg #[I J x.s.t,I J x.s.se,I J x.s.we]),I J x.si,I J x.tc,I J x.rest] 162)
  have a8:(d.setCell ⟨b,8,O⟩ (I J (num+1))).1.size=d.1.size:=by simp
  rw[a8]at aE
  have s0:((d.setCell ⟨b,8,O⟩ (I J (num+1))).alloc (.cells #[.iface x.jt (.agg #[I J x.s.t,I J x.s.se,I J x.s.we]),I J x.si,I J x.tc,I J x.rest] 162)).cell? ⟨w.1.size,0,O⟩=E (.pointer (E ⟨b,0,O⟩)):=by exact(((N _ _).alloc (Y _) _).cell (p:=⟨w.1.size,0,O⟩) (by rw[a8];exact bT)).trans ((zE bV).trans z0)
  have s1:((d.setCell ⟨b,8,O⟩ (I J (num+1))).alloc (.cells #[.iface x.jt (.agg #[I J x.s.t,I J x.s.se,I J x.s.we]),I J x.si,I J x.tc,I J x.rest] 162)).cell? ⟨w.1.size+1,0,O⟩=E (I J now):=by exact(((N _ _).alloc (Y _) _).cell (p:=⟨w.1.size+1,0,O⟩) (by rw[a8];exact bU)).trans ((zE bW).trans z1)
  have s2:((d.setCell ⟨b,8,O⟩ (I J (num+1))).alloc (.cells #[.iface x.jt (.agg #[I J x.s.t,I J x.s.se,I J x.s.we]),I J x.si,I J x.tc,I J x.rest] 162)).cell? ⟨d.1.size,0,O⟩=E (.iface x.jt (.agg #[I J x.s.t,I J x.s.se,I J x.s.we])):=by rw[show d.1.size=(d.setCell ⟨b,8,O⟩ (I J (num+1))).1.size from(by simp),zN (zo _ _)];rfl
  have s3:((d.setCell ⟨b,8,O⟩ (I J (num+1))).alloc (.cells #[.iface x.jt (.agg #[I J x.s.t,I J x.s.se,I J x.s.we]),I J x.si,I J x.tc,I J x.rest] 162)).cell? ⟨d.1.size,1,O⟩=E (I J x.si):=by rw[show d.1.size=(d.setCell ⟨b,8,O⟩ (I J (num+1))).1.size from(by simp),zN (zo _ _)];rfl
  have s4:((d.setCell ⟨b,8,O⟩ (I J (num+1))).alloc (.cells #[.iface x.jt (.agg #[I J x.s.t,I J x.s.se,I J x.s.we]),I J x.si,I J x.tc,I J x.rest] 162)).cell? ⟨d.1.size,2,O⟩=E (I J x.tc):=by rw[show d.1.size=(d.setCell ⟨b,8,O⟩ (I J (num+1))).1.size from(by simp),zN (zo _ _)];rfl
  have s5:((d.setCell ⟨b,8,O⟩ (I J (num+1))).alloc (.cells #[.iface x.jt (.agg #[I J x.s.t,I J x.s.se,I J x.s.we]),I J x.si,I J x.tc,I J x.rest] 162)).cell? ⟨d.1.size,3,O⟩=E (I J x.rest):=by rw[show d.1.size=(d.setCell ⟨b,8,O⟩ (I J (num+1))).1.size from(by simp),zN (zo _ _)];rfl
  obtain⟨s6,s7,s8,s9,cc,cd,ce,cf,cg,-,ch,-⟩:=zc aA.head
  have b6:=(Below.heap_alloc (d.setCell ⟨b,8,O⟩ (I J (num+1))) (.cells #[.iface x.jt (.agg #[I J x.s.t,I J x.s.se,I J x.s.we]),I J x.si,I J x.tc,I J x.rest] 162) (w.1.size+2) (by rw[a8];omega)).trans ((zT (by omega)).trans (ud r))
  have bs:=ze b6
  clear b6
  have aK:=ze aA
  have bD:=ze aE
  have bw:Hid ((⟨ep,num+1⟩:Tok).wf):=⟨bH,by unfold yS;dsimp only;omega⟩
  have aL:=fun W=>ze (keyOf_any x W)
  have aM:=fun W=>ze (zde c a cap W)
  have aW:=(ud au).foot_lt
  have bX:¬w.1.size=qb:=fun e=>by have:=(ud H).foot_lt qb (.inr (.inr rfl));omega
  have bY:¬w.1.size+1=qb:=fun e=>by have:=(ud H).foot_lt qb (.inr (.inr rfl));omega
  have ak:¬d.1.size=qb:=fun e=>by have:=aW qb (.inr (.inr rfl));omega
  have L:¬b=qb:=fun e=>(ud au).qb_ne e.symm
  have bZ:¬w.1.size+2=qb:=fun e=>by have:=(ud H).foot_lt qb (.inr (.inr rfl));omega
  have aJ:QL.length<maxLen:=by simp only[maxLen];omega
  obtain⟨cj,ck⟩:=hc.le
  have cl:=l.1
  have cm:=l.2
  have cu:IntKind.i64.wrap (now+c.le)=now+c.le:=by rw[IntKind.wrap_i64];omega
  clear a0 aA a8 aE aW
  go_wp2_with fail
  generalize aU:((d.setCell ⟨b,8,O⟩ (I J (num+1))).alloc (.cells #[.iface x.jt (.agg #[I J x.s.t,I J x.s.se,I J x.s.we]),I J x.si,I J x.tc,I J x.rest] 162))=XF at*
  have bA:=ze aU
  have bN:XF.1.size=d.1.size+1:=ud bD
  have bc:w.1.size<XF.1.size:=by omega
  have bg:w.1.size+1<XF.1.size:=by omega
  have ac:d.1.size<XF.1.size:=by omega
  have C:b<XF.1.size:=by omega
  clear aU bN v0 v1 v2 v3 v4 v5 v6 v7 v8 v9 ci z0 z1 bf
  go_region_held3 (fun w'=>w'.cell? ⟨w.1.size,0,O⟩=E (.pointer (E ⟨b,0,O⟩))/\w'.cell? ⟨w.1.size+1,0,O⟩=E (I J now)/\w'.cell? ⟨d.1.size,0,O⟩=E (.iface x.jt (.agg #[I J x.s.t,I J x.s.se,I J x.s.we]))/\w'.cell? ⟨d.1.size,1,O⟩=E (I J x.si)/\w'.cell? ⟨d.1.size,2,O⟩=E (I J x.tc)/\w'.cell? ⟨d.1.size,3,O⟩=E (I J x.rest)/\w'.cell? ⟨b,0,O⟩=E (I J c.s)/\w'.cell? ⟨b,1,O⟩=E (I J c.le)/\w'.cell? ⟨b,2,O⟩=E (I J c.la)/\w'.cell? ⟨b,3,O⟩=E (I J c.wi)/\w'.cell? ⟨b,4,O⟩=E (I J c.ke)/\w'.cell? ⟨b,5,O⟩=E (I J c.qu)/\w'.cell? ⟨b,6,O⟩=E (.slice a c.n cap)/\w'.cell? ⟨b,7,O⟩=E (I J ep)/\w'.cell? ⟨b,8,O⟩=E (I J (num+1))/\w'.cell? ⟨b,10,O⟩=E (.map (E qb))) (go_keep) (first
   |(go_at_call 87;(with_reducible refine(ud (aL _)).mono ?_);rintro e M ⟨rfl,z⟩;have hv:Z XF.1.size XF M:=⟨z.os,z.tape,z.output,z.size,z.block⟩;clear z;have p0:M.cell? ⟨w.1.size,0,O⟩=E (.pointer (E ⟨b,0,O⟩)):=(hv.cell (p:=⟨w.1.size,0,O⟩) bc).trans s0;have p1:M.cell? ⟨w.1.size+1,0,O⟩=E (I J now):=(hv.cell (p:=⟨w.1.size+1,0,O⟩) bg).trans s1;have p2:M.cell? ⟨d.1.size,0,O⟩=E (.iface x.jt (.agg #[I J x.s.t,I J x.s.se,I J x.s.we])):=(hv.cell (p:=⟨d.1.size,0,O⟩) ac).trans s2;have p3:M.cell? ⟨d.1.size,1,O⟩=E (I J x.si):=(hv.cell (p:=⟨d.1.size,1,O⟩) ac).trans s3;have p4:M.cell? ⟨d.1.size,2,O⟩=E (I J x.tc):=(hv.cell (p:=⟨d.1.size,2,O⟩) ac).trans s4;have p5:M.cell? ⟨d.1.size,3,O⟩=E (I J x.rest):=(hv.cell (p:=⟨d.1.size,3,O⟩) ac).trans s5;have p6:M.cell? ⟨b,0,O⟩=E (I J c.s):=(hv.cell (p:=⟨b,0,O⟩) C).trans s6;have p7:M.cell? ⟨b,1,O⟩=E (I J c.le):=(hv.cell (p:=⟨b,1,O⟩) C).trans s7;have p8:M.cell? ⟨b,2,O⟩=E (I J c.la):=(hv.cell (p:=⟨b,2,O⟩) C).trans s8;have p9:M.cell? ⟨b,3,O⟩=E (I J c.wi):=(hv.cell (p:=⟨b,3,O⟩) C).trans s9;have c0:M.cell? ⟨b,4,O⟩=E (I J c.ke):=(hv.cell (p:=⟨b,4,O⟩) C).trans cc;have c1:M.cell? ⟨b,5,O⟩=E (I J c.qu):=(hv.cell (p:=⟨b,5,O⟩) C).trans cd;have c2:M.cell? ⟨b,6,O⟩=E (.slice a c.n cap):=(hv.cell (p:=⟨b,6,O⟩) C).trans ce;have c3:M.cell? ⟨b,7,O⟩=E (I J ep):=(hv.cell (p:=⟨b,7,O⟩) C).trans cf;have c4:M.cell? ⟨b,8,O⟩=E (I J (num+1)):=(hv.cell (p:=⟨b,8,O⟩) C).trans cg;have c5:M.cell? ⟨b,10,O⟩=E (.map (E qb)):=(hv.cell (p:=⟨b,10,O⟩) C).trans ch;have bd:=Q bc hv.size;have bh:=Q bg hv.size;have ad:=Q ac hv.size;have D:=Q C hv.size;have aR:=ze hv;clear hv aL)
   |(go_at_call 88;(with_reducible refine(ud (aM _)).mono ?_);rintro e P ⟨rfl,z⟩;have hv:Z M.1.size M P:=⟨z.os,z.tape,z.output,z.size,z.block⟩;clear z;have r0:P.cell? ⟨w.1.size,0,O⟩=E (.pointer (E ⟨b,0,O⟩)):=(hv.cell (p:=⟨w.1.size,0,O⟩) bd).trans p0;have r1:P.cell? ⟨w.1.size+1,0,O⟩=E (I J now):=(hv.cell (p:=⟨w.1.size+1,0,O⟩) bh).trans p1;have r2:P.cell? ⟨d.1.size,0,O⟩=E (.iface x.jt (.agg #[I J x.s.t,I J x.s.se,I J x.s.we])):=(hv.cell (p:=⟨d.1.size,0,O⟩) ad).trans p2;have r3:P.cell? ⟨d.1.size,1,O⟩=E (I J x.si):=(hv.cell (p:=⟨d.1.size,1,O⟩) ad).trans p3;have r4:P.cell? ⟨d.1.size,2,O⟩=E (I J x.tc):=(hv.cell (p:=⟨d.1.size,2,O⟩) ad).trans p4;have r5:P.cell? ⟨d.1.size,3,O⟩=E (I J x.rest):=(hv.cell (p:=⟨d.1.size,3,O⟩) ad).trans p5;have r6:P.cell? ⟨b,0,O⟩=E (I J c.s):=(hv.cell (p:=⟨b,0,O⟩) D).trans p6;have r7:P.cell? ⟨b,1,O⟩=E (I J c.le):=(hv.cell (p:=⟨b,1,O⟩) D).trans p7;have r8:P.cell? ⟨b,2,O⟩=E (I J c.la):=(hv.cell (p:=⟨b,2,O⟩) D).trans p8;have r9:P.cell? ⟨b,3,O⟩=E (I J c.wi):=(hv.cell (p:=⟨b,3,O⟩) D).trans p9;have c6:P.cell? ⟨b,4,O⟩=E (I J c.ke):=(hv.cell (p:=⟨b,4,O⟩) D).trans c0;have c7:P.cell? ⟨b,5,O⟩=E (I J c.qu):=(hv.cell (p:=⟨b,5,O⟩) D).trans c1;have c8:P.cell? ⟨b,6,O⟩=E (.slice a c.n cap):=(hv.cell (p:=⟨b,6,O⟩) D).trans c2;have c9:P.cell? ⟨b,7,O⟩=E (I J ep):=(hv.cell (p:=⟨b,7,O⟩) D).trans c3;have ca:P.cell? ⟨b,8,O⟩=E (I J (num+1)):=(hv.cell (p:=⟨b,8,O⟩) D).trans c4;have cb:P.cell? ⟨b,10,O⟩=E (.map (E qb)):=(hv.cell (p:=⟨b,10,O⟩) D).trans c5;have be:=Q bd hv.size;have bO:=Q bh hv.size;have ae:=Q ad hv.size;have G:=Q D hv.size;have aD:=(ud aR).trans (hv.mono (ud aR).size);obtain⟨o,ar,hm,A⟩:=zgz ((ud aK).later aD).leases aJ (ud bw) ⟨x.kd,x.s,slot,now+c.le⟩;dsimp only at ar;obtain⟨U,hU⟩:∃U,setBlock P qb o=U:=⟨_,rfl⟩;rw[hU]at ar hm A;have u0:U.cell? ⟨w.1.size,0,O⟩=E (.pointer (E ⟨b,0,O⟩)):=(zr (i:=0) A bX be).trans r0;have u1:U.cell? ⟨w.1.size+1,0,O⟩=E (I J now):=(zr (i:=0) A bY bO).trans r1;have u2:U.cell? ⟨d.1.size,0,O⟩=E (.iface x.jt (.agg #[I J x.s.t,I J x.s.se,I J x.s.we])):=(zr (i:=0) A ak ae).trans r2;have u3:U.cell? ⟨d.1.size,1,O⟩=E (I J x.si):=(zr (i:=1) A ak ae).trans r3;have u4:U.cell? ⟨d.1.size,2,O⟩=E (I J x.tc):=(zr (i:=2) A ak ae).trans r4;have u5:U.cell? ⟨d.1.size,3,O⟩=E (I J x.rest):=(zr (i:=3) A ak ae).trans r5;have u6:U.cell? ⟨b,0,O⟩=E (I J c.s):=(zr (i:=0) A L G).trans r6;have u7:U.cell? ⟨b,1,O⟩=E (I J c.le):=(zr (i:=1) A L G).trans r7;have u8:U.cell? ⟨b,2,O⟩=E (I J c.la):=(zr (i:=2) A L G).trans r8;have u9:U.cell? ⟨b,3,O⟩=E (I J c.wi):=(zr (i:=3) A L G).trans r9;have cC:U.cell? ⟨b,4,O⟩=E (I J c.ke):=(zr (i:=4) A L G).trans c6;have cD:U.cell? ⟨b,5,O⟩=E (I J c.qu):=(zr (i:=5) A L G).trans c7;have cE:U.cell? ⟨b,6,O⟩=E (.slice a c.n cap):=(zr (i:=6) A L G).trans c8;have cF:U.cell? ⟨b,7,O⟩=E (I J ep):=(zr (i:=7) A L G).trans c9;have cG:U.cell? ⟨b,8,O⟩=E (I J (num+1)):=(zr (i:=8) A L G).trans ca;have cH:U.cell? ⟨b,10,O⟩=E (.map (E qb)):=(zr (i:=10) A L G).trans cb;have ax:=ze aD;have bn:=ze hm;have a4:=ze A;clear hv aD hm A hU aM))
  have aB:=((ud aK).later (ud ax)).putLeases (ud bn) (ud a4)
  have aq:=(ud H).leases.nodup
  have bv:=ze (zcz aB x ⟨ep,num+1⟩ ⟨x.kd,x.s,slot,now+c.le⟩ (zK (by rw[ja aq,if_pos rfl])) rfl (fun q hq e=>by
   rcases yD hq with rfl|⟨hq,_⟩
   ·rfl
   ·exact absurd e (ud bo q hq)))
  have b8:=((ud ax).block (w.1.size+2) (by omega)).trans (ud bs)
  have b7:=(ud a4).heap b8 bZ
  have aP:=ze b7
  have bl:=ze aB
  have cy:=Q ae (ud a4).size
  have cz:=Q G (ud a4).size
  have cx:=Q be (ud a4).size
  clear aB b8 b7 aq
  go_wp2_with(first|(go_at_call 89;refine(ud bv).mono ?_;rintro e T ⟨rfl,aC⟩;have u:=(aC.block _ (zd (ud aP))).trans (ud aP);have e0:T.cell? ⟨w.1.size+1+1,0,O⟩=E (I J 0):=(by rw[show w.1.size+1+1=w.1.size+2 from rfl,zN u];rfl);have e1:T.cell? ⟨w.1.size+1+1,1,O⟩=E (I J 0):=(by rw[show w.1.size+1+1=w.1.size+2 from rfl,zN u];rfl);have e2:T.cell? ⟨w.1.size+1+1,2,O⟩=E (I J 0):=(by rw[show w.1.size+1+1=w.1.size+2 from rfl,zN u];rfl);have e3:T.cell? ⟨w.1.size+1+1,3,O⟩=E (I J 0):=(by rw[show w.1.size+1+1=w.1.size+2 from rfl,zN u];rfl);have e4:T.cell? ⟨w.1.size+1+1,4,O⟩=E (I J 0):=(by rw[show w.1.size+1+1=w.1.size+2 from rfl,zN u];rfl);have e5:T.cell? ⟨w.1.size+1+1,5,O⟩=E (I J 0):=(by rw[show w.1.size+1+1=w.1.size+2 from rfl,zN u];rfl);have e6:T.cell? ⟨w.1.size+1+1,6,O⟩=E (I J 0):=(by rw[show w.1.size+1+1=w.1.size+2 from rfl,zN u];rfl);have e7:T.cell? ⟨w.1.size+1+1,7,O⟩=E (I J 0):=(by rw[show w.1.size+1+1=w.1.size+2 from rfl,zN u];rfl);have e8:T.cell? ⟨w.1.size+1+1,8,O⟩=E (I J 0):=(by rw[show w.1.size+1+1=w.1.size+2 from rfl,zN u];rfl);have e9:T.cell? ⟨w.1.size+1+1,9,O⟩=E (I J 0):=(by rw[show w.1.size+1+1=w.1.size+2 from rfl,zN u];rfl);have bE:T.cell? ⟨w.1.size+1+1,10,O⟩=E (I J 0):=(by rw[show w.1.size+1+1=w.1.size+2 from rfl,zN u];rfl);have ef:=fun j=>zD (show T.1[w.1.size+1+1]?=_ from u) j;have lT:w.1.size+1+1<T.1.size:=zd u;have bt:=ze u;have aQ:=ze aC;clear u aC))
  have hf:=kH (ud bt) (I J x.kd) (I J x.s.t) (I J x.s.se) (I J x.s.we) (I J x.si) (I J x.tc) (I J x.rest) (I J ep) (I J (num+1)) (I J slot) (I J (now+c.le))
  refine bodyPost_ret (zj results39 _ _ (w.1.size+2) _ _ _ _ _ rfl rfl hf underlying51 rfl (by kernel_rfl)) rfl ?_
  right
  obtain⟨p,hp,b2,a9⟩:=ud aO
  subst b2
  have kT:=qH (w:=T) (g:=w.1.size+2) (I J p.2.kd) (I J p.2.s.t) (I J p.2.s.se) (I J p.2.s.we) (I J p.2.si) (I J p.2.tc) (I J p.2.rest) (I J ep) (I J (num+1)) (I J slot) (I J (now+c.le))
  have k0:=zk.of_below (f:=fun k=>k=b\/k=qb) (ud ay)
  have kF:zk (fun k=>k=b) d XF:=by rw[<-ud bA];exact(zn (zk.refl (fun k=>k=b) d) rfl).alloc _
  have k1:=k0.trans (kF.mono (fun k _ e=> .inl e)) (fun _ _ e=>e)
  have k2:=k1.trans (zk.of_below (f:=fun k=>k=b\/k=qb) (ud ax)) (fun _ _ e=>e)
  have k3:=k2.trans ((ud a4).mono (fun k _ e=> .inr e)) (fun _ _ e=>e)
  have k4:=k3.trans (zk.of_below (f:=fun k=>k=b\/k=qb) (ud aQ)) (fun _ _ e=>e)
  exact⟨p,hp,a9,ud aN,rfl,((ud bl).later (ud aQ)).kept kT (fun k A e=>by have:=(ud H).foot_lt k A;omega),k4.trans kT (fun k A e=>by omega)⟩
def Wt(L:LV)(s:Sg):Prop:=∃v,(s,v)∈L/\v.st=2
def Pub(L:LV)(s:Sg):Prop:=∃v,(s,v)∈L/\v.st=3
structure ziS(c:Cf)(now:Int)(L:LV)(ns:List Nm)(rl:Bool)(s:Sg):Prop where
 roll:rl=true->∀k:Nat,s.t=k->∀x∈ns,zI c s.t x=s->¬Wt L (zI c (c.F k) x)
 recl:rl=false->(s.we+1)*c.wh s.t+c.keep s.t<=now/\∀x∈ns,zI c s.t x=s->∀k:Nat,k<c.n->c.F k=s.t->¬Wt L (zI c k x)
structure ZN(c:Cf)(m:MS)(ns:List Nm):Prop where
 tm:∀x∈ns,0<=x.tm/\x.tm<=m.now/\0<=x.se/\x.se<4/\ -2147483648<=x.val/\x.val<=2147483647
 keys:∀x∈ns,∀t:Int,-1<=t->t<c.n->zI c t x∈zx m.L\/zI c t x∈zv m.Gl
 has:∀s∈zx m.L,∃x∈ns,zI c s.t x=s
 gone:∀x∈ns,∀k:Nat,k<c.n->zI c (c.F k) x∈zv m.Gl->zI c k x∈zv m.Gl\/Pub m.L (zI c k x)
 over:∀s∈zv m.Gl,(s.we+1)*c.wh s.t+c.keep s.t<=m.now
 cell:∀p∈m.L,p.2.st≠2->IsC (fun x=>zI c p.1.t x=p.1) ns p.2.cl
 tg:∀p∈m.TL,ziS c m.now m.L ns p.2.rl p.2.s
section
variable {c:Cf} {ep:Int} {m:MS} {ns:List Nm}
theorem vE{L:LV}(hn:(zx L).Nodup){s:Sg}{u v:SV}(h:(s,u)∈L)(k:(s,v)∈L):u=v:=by
 have b:zV L s=E u:=xu hn h
 have a:zV L s=E v:=xu hn k
 rw[b]at a;injection a
theorem jq{L:LV}{p:Sg×SV}(h:p∈L):p.1∈zx L:=List.mem_map.2 ⟨p,h,rfl⟩
theorem KR{L:LV}(hn:(zx L).Nodup){s:Sg}(h:Wt L s):s∈zx L/\(stL L s).st=2:=by
 obtain⟨v,hv,b⟩:=h
 have a:=jq hv
 have:=zY a
 rw[vE hn this hv]
 exact⟨a,b⟩
theorem vV(c:Cf)(k:Nat):c.wh (k:Int)=c.W k:=by
 unfold Cf.wh xd
 rw[if_neg (by omega)];simp
theorem ziL(e:c.ok)(a:c.fits){x:Nm}(i:0<=x.tm){k:Nat}(b:k<c.n):x.tm/c.wh (c.F k)*c.wh (c.F k)/c.W k=x.tm/c.W k:=by
 obtain⟨q,g,f⟩:=a.quot k b
 have d:=a.down k b
 have h:=(e.wh d.1 (by omega)).1
 rw[f,Int.mul_comm (x.tm/c.wh (c.F k)),Int.mul_ediv_mul_of_pos _ _ (by omega),Int.ediv_ediv_of_nonneg (by omega)]
theorem zbT(b:c.ok)(d:c.fits){x:Nm}(e:0<=x.tm){k:Nat}(a:k<c.n):zI c k x∈kg c (zI c (c.F k) x):=by
 unfold kg K0
 rw[List.map_map]
 refine List.mem_map.2 ⟨k,List.mem_filter.2 ⟨by simpa using a,by simp[zI]⟩,?_⟩
 show(⟨(k:Int),x.se,x.tm/c.wh (c.F k)*c.wh (c.F k)/c.W k⟩:Sg)=zI c k x
 rw[ziL b d e a]
 unfold zI;rw[vV]
theorem kD(d:c.ok)(f:MOk c ep m){x:Nm}(e:m.now-c.la<=x.tm){t:Int}(a: -1<=t)(b:t<c.n):zI c t x∉zv m.Gl:=fun h=>Z7 d a b e (f.seg.goc _ h)
theorem JC(e:c.ok)(g:MOk c ep m){x:Nm}(f:m.now-c.la<=x.tm){t:Int}(a: -1<=t)(b:t<c.n):¬Pub m.L (zI c t x):=fun⟨v,hv,d⟩=>Z7 e a b f (g.seg.pubc _ hv d)
theorem JM{now:Int}:∀(a:List Sg) {T:List (Jk×Tsk)} {p:Jk×Tsk},p∈a.foldl (qW now) T->p∈T\/∃s∈a,p.2.rl=true/\p.2.s=s
 |[],T,p,h=> .inl h
 |y::a,T,p,h=>by
  rcases JM a h with h|⟨s,b,h⟩
  ·unfold qW at h
   split at h
   ·exact .inl h
   ·rcases yD h with rfl|⟨h,_⟩
    ·exact .inr ⟨y,by simp,rfl,rfl⟩
    ·exact .inl h
  ·exact .inr ⟨s,by simp[b],h⟩
theorem JK{now:Int}:∀(a:List Sg) {T:List (Jk×Tsk)} {p:Jk×Tsk},p∈a.foldl (yF now) T->p∈T\/∃s∈a,p.2.rl=false/\p.2.s=s
 |[],T,p,h=> .inl h
 |y::a,T,p,h=>by
  rcases JK a h with h|⟨s,b,h⟩
  ·unfold yF at h
   split at h
   ·exact .inl h
   ·rcases yD h with rfl|⟨h,_⟩
    ·exact .inr ⟨y,by simp,rfl,rfl⟩
    ·exact .inl h
  ·exact .inr ⟨s,by simp[b],h⟩
theorem ZN.post(r:c.ok)(D:c.fits)(a:yZ c m.now m.L m.Gl)(h:ZN c m ns){j:List (Jk×Tsk)}(d:qU c m j):ZN c {m with TL:=j} ns:=by
 obtain⟨H,B,C,T,M,P,rfl⟩:=d.to
 refine⟨h.tm,h.keys,h.has,h.gone,h.over,h.cell,fun p d=>?_⟩
 rcases JK C d with d|⟨s,v,l,o⟩
 ·rcases JM B d with d|⟨s,v,l,o⟩
  ·exact h.tg p d
  ·rw[l,o]
   refine⟨fun _ k t x z i w=>?_,fun e=>by cases e⟩
   obtain⟨g,f⟩:=(M s).1 v
   obtain⟨F,A⟩:=KR a.nl w
   have u:k<c.n:=by
    have:=(a.inr _ (zY g)).2.2.1
    simp only at this
    omega
   have b:s∈zv H:=(T s).2 ⟨_,F,A,by
    have:=zbT r D (h.tm x z).1 u
    rw[<-t,i]at this
    exact this⟩
   unfold vq at f
   simp only[Bool.and_eq_true,Option.isNone_iff_eq_none]at f
   exact xB.1 f.1.1 b
 ·rw[l,o]
  refine⟨fun e=>(by cases e),fun _=>?_⟩
  obtain⟨g,f⟩:=(P s).1 v
  have b:=a.inr _ (zY g)
  unfold vo at f
  simp only[Bool.and_eq_true,Bool.not_eq_true',beq_eq_false_iff_ne,ne_eq,decide_eq_true_eq]at f
  obtain⟨⟨X,W⟩,G⟩:=f
  refine⟨W,fun x z i k t q w=>?_⟩
  obtain⟨F,A⟩:=KR a.nl w
  have S:zI c k x∈kg c s:=by
   have:=zbT r D (h.tm x z).1 t
   rw[q,i]at this
   exact this
  unfold XZ at G
  have R:((vC c s).filter (fun x=>(stL m.L x.1).st==2)).length=0:=by
   have:=of_decide_eq_true (show decide ((((vC c s).filter (fun x=>(stL m.L x.1).st==2)).length:Int)=0)=true from by simpa using G)
   omega
  have U:=(jF r b (zI c k x)).2 S
  obtain⟨y,V,K⟩:=List.mem_map.1 U
  have:y∈(vC c s).filter (fun x=>(stL m.L x.1).st==2):=List.mem_filter.2 ⟨V,by rw[K];simpa using A⟩
  rw[List.eq_nil_of_length_eq_zero R]at this;simp at this
theorem Kd{T:List (Jk×Tsk)}{k:Jk}{x:Tsk}{now:Int}(b:zV T k=E x){p:Jk×Tsk}(a:p∈qt T k (x.failed now)):∃q∈T,q.2.rl=p.2.rl/\q.2.s=p.2.s:=by
 rcases yD a with rfl|⟨a,_⟩
 ·exact⟨_,zK b,rfl,rfl⟩
 ·exact⟨p,a,rfl,rfl⟩
theorem zbK{now:Int}{TL:List (Jk×Tsk)}{QL:List (Tok×Lse)}{b:List (Jk×Tsk)}{Q1:List (Tok×Lse)}(h:zbz now TL QL b Q1):∀p∈b,∃q∈TL,q.2.rl=p.2.rl/\q.2.s=p.2.s:=by
 induction h with
 |nil=>exact fun p a=>⟨p,a,rfl,rfl⟩
 |step l m n g k=>
  intro p a
  obtain⟨q,i,c,d⟩:=Kd g a
  obtain⟨r,j,e,f⟩:=k q i
  exact⟨r,j,e.trans c,f.trans d⟩
theorem ziS.mono{now a:Int}{L:LV}{rl:Bool}{s:Sg}(h:ziS c now L ns rl s)(hn:now<=a):ziS c a L ns rl s:=
 ⟨h.roll,fun e=>⟨by have:=(h.recl e).1;omega,(h.recl e).2⟩⟩
theorem ziS.live{now:Int}{L g:LV}{rl:Bool}{s:Sg}(h:ziS c now L ns rl s)(i:∀y,Wt g y->Wt L y):ziS c now g ns rl s:=
 ⟨fun e k b x f d a=>h.roll e k b x f d (i _ a),fun e=>⟨(h.recl e).1,fun x f d k b j a=>(h.recl e).2 x f d k b j (i _ a)⟩⟩
theorem ZN.ticked(h:ZN c m ns){a:Int}(hn:m.now<=a){b:List (Jk×Tsk)}{Q1:List (Tok×Lse)}(j:∀p∈b,∃q∈m.TL,q.2.rl=p.2.rl/\q.2.s=p.2.s)(num:Int):ZN c {m with now:=a,num:=num,TL:=b,QL:=Q1} ns:=
 ⟨fun x k=>by have:=h.tm x k;exact⟨this.1,by show x.tm<=a;omega,this.2.2⟩,h.keys,h.has,h.gone,fun s i=>by have:=h.over s i;show _<=a;omega,h.cell,fun p f=>by
  obtain⟨q,g,d,e⟩:=j p f
  have:=(h.tg q g).mono hn
  rw[d,e]at this;exact this⟩
end
theorem zdi{w:World}{i:Ids}{c:Cf}{ep:Int}{m:MS}(h:zy w i c ep m)(hc:c.ok)(slot:Int)(aZ:0<=slot/\slot<c.s)(ay:0<=m.now/\m.now<=100000)(hT:∀p∈m.TL,KS c m.now p.2)(aB:m.QL.length<=100000)(az:0<=m.num/\m.num<=1000000000000000)(aK:yS ep)(aO:∀q∈m.QL,q.1.num<=m.num)(hu:0<=xg m.L/\xg m.L<=1000):
  Calls prog 16 #[.pointer (E ⟨i.x,0,O⟩),I J slot] w fun e w'=>(e=.returned (.tuple #[zjB,I J 6])/\Z w.1.size w w'/\m.QL.any (fun p=>p.2.slot==slot)=true)\/(e=.returned (.tuple #[zjB,I J 7])/\Z w.1.size w w'/\(∀p∈m.TL,kw m.QL m.now p.2=false)/\m.QL.any (fun p=>p.2.slot==slot)=false)\/∃p,m.QL.any (fun p=>p.2.slot==slot)=false/\p∈m.TL/\kw m.QL m.now p.2=true/\QI c m.now (yx (xg m.L) c.qu) m.QL m.TL p.2/\e=.returned (.tuple #[.agg #[I J p.2.kd,I J p.2.s.t,I J p.2.s.se,I J p.2.s.we,I J p.2.si,I J p.2.tc,I J p.2.rest,I J ep,I J (m.num+1),I J slot,I J (m.now+c.le)],I J 0])/\zy w' i c ep {m with num:=m.num+1,QL:=qt m.QL ⟨ep,m.num+1⟩ ⟨p.2.kd,p.2.s,slot,m.now+c.le⟩}/\zk (zU i) w w':=by
 have ag:Z w.1.size w (w.alloc (.cells #[I J 0,I J 0,I J 0,I J 0,I J 0,I J 0,I J 0,I J 0,I J 0,I J 0,I J 0] 51)):=(N _ _).alloc (Y _) _
 have q0:=zo w (.cells #[I J 0,I J 0,I J 0,I J 0,I J 0,I J 0,I J 0,I J 0,I J 0,I J 0,I J 0] 51)
 have qz:=zF w (.cells #[I J 0,I J 0,I J 0,I J 0,I J 0,I J 0,I J 0,I J 0,I J 0,I J 0,I J 0] 51)
 have hX:=h.later ag
 obtain⟨a,cap,ak,aD⟩:=h.ts
 obtain⟨c0,c1,c2,c3,c4,c5,c6,-,c8,-,ae⟩:=hX.cells
 rw[ak]at c6
 have S:=hX.lt
 have a7:=fun W=>ze (Jy c hc a cap slot W)
 rw[show inB slot 0 (c.s-1)=true from by rw[qq];omega]at a7
 have V:=fun W K=>ze (zhj ((h.later (w':=W) K).board) slot aB)
 have ar:=fun W K=>ze (KP (h.later (w':=W) K) hc hu)
 have aq:=fun W K ao=>ze (zcJ (a:=a) (cap:=cap) (ak▸(h.later (w':=W) K).board) hc (aD.below K) slot m.now ao ay hT aB az aK aO)
 have H:=ze h
 have a3:=ze ag
 have Q0:=ze q0
 have QZ:=ze qz
 clear h hX ag q0 qz aD
 go_enter func16,ntmps16
 have aC:w.1.size<(w.alloc (.cells #[I J 0,I J 0,I J 0,I J 0,I J 0,I J 0,I J 0,I J 0,I J 0,I J 0,I J 0] 51)).1.size:=by rw[ud QZ];omega
 by_cases hbs:m.QL.any (fun p=>p.2.slot==slot)=true
 ·rw[hbs]at V
  go_wp2_with(first
   |(go_at_call 37;refine(ud (a7 _)).mono ?_;rintro e w1 ⟨rfl,r⟩;have am:=(r.cell (p:=⟨i.x,10,O⟩) S).trans ae;have D:=Q S r.size;have F:=ze ((ud a3).trans (r.mono (ud a3).size));have a0:=ze ((r.block _ aC).trans (ud Q0));clear r)
   |(go_at_call 38;refine(ud (V _ (ud F))).mono ?_;rintro e u ⟨rfl,z⟩;have o:=ze ((ud F).trans (z.mono (ud F).size));have a2:=(z.block _ (zd (ud a0))).trans (ud a0);have z0:=(z11 a2);obtain⟨z0,z1,z2,z3,z4,z5,z6,z7,z8,z9,aH⟩:=z0;have zf:=fun j=>zD a2 j;have zl:=zd a2;have a1:=ze a2;clear z a2))
  have hf:=kH (ud a1) (I J 0) (I J 0) (I J 0) (I J 0) (I J 0) (I J 0) (I J 0) (I J 0) (I J 0) (I J 0) (I J 0)
  refine bodyPost_ret (zj results16 _ _ w.1.size _ _ _ _ _ rfl rfl hf underlying51 rfl (by kernel_rfl)) rfl ?_
  have B:=qH (w:=u) (g:=w.1.size) (I J 0) (I J 0) (I J 0) (I J 0) (I J 0) (I J 0) (I J 0) (I J 0) (I J 0) (I J 0) (I J 0)
  exact .inl ⟨rfl,(ud o).trans (B.below (ud o).size (fun k e=>by omega)),hbs⟩
 ·have aw:m.QL.any (fun p=>p.2.slot==slot)=false:=by simpa using hbs
  rw[aw]at V
  have ap:=ze aw
  go_wp2_with(first
   |(go_at_call 37;refine(ud (a7 _)).mono ?_;rintro e w1 ⟨rfl,r⟩;have am:=(r.cell (p:=⟨i.x,10,O⟩) S).trans ae;have D:=Q S r.size;have F:=ze ((ud a3).trans (r.mono (ud a3).size));have a0:=ze ((r.block _ aC).trans (ud Q0));have m8:=(r.cell (p:=⟨i.x,8,O⟩) S).trans c8;clear r)
   |(go_at_call 38;refine(ud (V _ (ud F))).mono ?_;rintro e u ⟨rfl,z⟩;have aG:=(z.cell (p:=⟨i.x,10,O⟩) D).trans am;have n8:=(z.cell (p:=⟨i.x,8,O⟩) D).trans m8;have A:=Q D z.size;have o:=ze ((ud F).trans (z.mono (ud F).size));have a1:=ze ((z.block _ (zd (ud a0))).trans (ud a0));clear z))
  have af:=(ud H).later (ud o)
  have ai:=af.x_board
  have a8:=fun W (K:Z u.1.size u W)=>ar W ((ud o).trans (K.mono (ud o).size))
  have a6:=fun W (K:Z u.1.size u W)=>aq W ((ud o).trans (K.mono (ud o).size)) (yx (xg m.L) c.qu)
  have a5:=ze af
  have aP:w.1.size<u.1.size:=zd (ud a1)
  clear ar aq V a7 af c0 c1 c2 c3 c4 c5 c6 c8 ae m8 am S D
  have aX:¬i.x=u.1.size:=by omega
  have aY:¬u.1.size=i.x:=by omega
  have aj:w.1.size<u.1.size:=aP
  rename_i K1 hK1
  have aE:¬(i.x=i.b\/i.x=i.qb):=fun e=>by
   rcases e with e|e
   ·exact ai i.b (.inl rfl) e.symm
   ·exact ai i.qb (.inr (.inr rfl)) e.symm
  have aS:i.b<u.1.size:=(ud a5).foot_lt i.b (.inr (.inr (.inl rfl)))
  have aT:i.qb<u.1.size:=(ud a5).foot_lt i.qb (.inr (.inr (.inr (.inr rfl))))
  clear ai
  by_cases ah:∀p∈m.TL,kw m.QL m.now p.2=false
  ·have X:=fun W (K:Z u.1.size u W)=>ze ((ud (a6 W K)).mono (fun e W' hh=>hh.elim (fun h=>(⟨h.1,h.2.1⟩:e=.returned (.tuple #[.agg #[I J 0,I J 0,I J 0,I J 0,I J 0,I J 0,I J 0,I J 0,I J 0,I J 0,I J 0],.bool false])/\Z W.1.size W W')) (fun⟨p,hp,hf,_⟩=>absurd (ah p hp) (by rw[hf];simp))))
   clear a6
   have v:∀(bj:Nat) (T:World),Hid (T.1[w.1.size]?=E (.cells #[I J 0,I J 0,I J 0,I J 0,I J 0,I J 0,I J 0,I J 0,I J 0,I J 0,I J 0] 51 (0,0)))->Hid (Z w.1.size w T)->K1 {tmps:=#[.pointer (E ⟨i.x,0,O⟩),I J slot,undef,undef,.pointer (E ⟨w.1.size,0,O⟩),I J 0,.pointer (E ⟨bj,0,O⟩),.bool false,.pointer (E ⟨i.x,0,O⟩),.pointer (E ⟨i.x,0,O⟩),.pointer (E ⟨i.x,0,O⟩),.agg #[I J c.s,I J c.le,I J c.la,I J c.wi,I J c.ke,I J c.qu,.slice a c.n cap],I J slot,.bool true,.bool false,.bool false,.pointer (E ⟨i.x,0,O⟩),.pointer (E ⟨i.x,0,O⟩),.pointer (E ⟨i.x,10,O⟩),.pointer (E ⟨i.b,0,O⟩),I J slot,.bool false,.bool false,undef,.tuple #[.agg #[I J 0,I J 0,I J 0,I J 0,I J 0,I J 0,I J 0,I J 0,I J 0,I J 0,I J 0],.bool false],.pointer (E ⟨i.x,0,O⟩),.pointer (E ⟨i.x,0,O⟩),.pointer (E ⟨i.x,10,O⟩),.pointer (E ⟨i.b,0,O⟩),I J slot,.pointer (E ⟨i.x,0,O⟩),.pointer (E ⟨i.x,0,O⟩),.pointer (E ⟨i.x,8,O⟩),I J m.now,.pointer (E ⟨i.x,0,O⟩),.bool (yx (xg m.L) c.qu),.tuple #[.agg #[I J 0,I J 0,I J 0,I J 0,I J 0,I J 0,I J 0,I J 0,I J 0,I J 0,I J 0],.bool false],.agg #[I J 0,I J 0,I J 0,I J 0,I J 0,I J 0,I J 0,I J 0,I J 0,I J 0,I J 0],.bool false,undef,undef,undef,undef],defers:=[]} T:=by
    intro bj T HR HB
    refine hK1 _ _ ?_
    clear hK1 X a8
    obtain⟨z0,z1,z2,z3,z4,z5,z6,z7,z8,z9,aH⟩:=z11 (ud HR)
    have zf:=fun j=>zD (ud HR) j
    have zl:=zd (ud HR)
    go_wp2_with fail
    have hf:=kH (ud HR) (I J 0) (I J 0) (I J 0) (I J 0) (I J 0) (I J 0) (I J 0) (I J 0) (I J 0) (I J 0) (I J 0)
    refine bodyPost_ret (zj results16 _ _ w.1.size _ _ _ _ _ rfl rfl hf underlying51 rfl (by kernel_rfl)) rfl ?_
    have B:=qH (w:=T) (g:=w.1.size) (I J 0) (I J 0) (I J 0) (I J 0) (I J 0) (I J 0) (I J 0) (I J 0) (I J 0) (I J 0) (I J 0)
    exact .inr (.inl ⟨rfl,(ud HB).trans (B.below (ud HB).size (fun k e=>by omega)),ah,ud ap⟩)
   go_region_held3 (fun w'=>w'.cell? ⟨i.x,10,O⟩=E (.pointer (E ⟨i.b,0,O⟩))/\w'.cell? ⟨i.x,8,O⟩=E (I J m.now)) (go_keep) (first
    |(go_at_call 35;(with_reducible refine(ud (a8 _ ?hb)).mono ?_);(case hb=>(first|exact(N _ _).drew|exact KW u _));rintro e U ⟨rfl,d⟩;have hv:Z u.1.size u U:=(by first|exact ziX d|exact ziB d);(try have hj:=zew d);have an:=(hv.cell (p:=⟨i.x,10,O⟩) A).trans aG;have s8:=(hv.cell (p:=⟨i.x,8,O⟩) A).trans n8;have y:=Q A hv.size;have aM:¬i.x=U.1.size:=(by omega);have aN:¬U.1.size=i.x:=(by omega);clear d)
    |(go_at_call 39;(with_reducible refine(ud (X _ ?hb)).mono ?_);(case hb=>(first|exact hv|exact hv.alloc hv.size _));rintro e V2 ⟨rfl,d⟩;have R:Z U.1.size U V2:=(by first|exact d|exact zlo d);(first|(have l:=zkv d)|(have l:=(R.block _ (zd hj)).trans hj)|skip);have aR:=(R.cell (p:=⟨i.x,10,O⟩) y).trans an;have t8:=(R.cell (p:=⟨i.x,8,O⟩) y).trans s8;have aF:=Q y R.size;(try(obtain⟨j0,j1,j2,j3,j4,j5,j6,j7,j8,j9,aQ⟩:=z11 l;have jf:=fun j=>zD l j;have jl:=zd l;have HJ:=ze l;clear l));have HV:=ze hv;have au:=ze R;clear d hv R))
   all_goals
    have a9:=(ud o).trans ((ud HV).mono (ud o).size)
    have M:=a9.trans ((ud au).mono a9.size)
    have ax:=(ud HV).size
    have C:=((ud au).block _ (Q aj ax)).trans (((ud HV).block _ aj).trans (ud a1))
   ·exact v _ _ (ze ((Below.heap_alloc _ _ _ (zd C)).trans C)) (ze (M.alloc M.size _))
   ·have B:=qH (w:=V2) (g:=U.1.size) (I J 0) (I J 0) (I J 0) (I J 0) (I J 0) (I J 0) (I J 0) (I J 0) (I J 0) (I J 0) (I J 0)
    exact v _ _ (ze (B.heap C (by omega))) (ze (M.trans (B.below M.size (fun k e=>by omega))))
   ·have B:=qH (w:=V2) (g:=u.1.size) (I J 0) (I J 0) (I J 0) (I J 0) (I J 0) (I J 0) (I J 0) (I J 0) (I J 0) (I J 0) (I J 0)
    exact v _ _ (ze (B.heap C (by omega))) (ze (M.trans (B.below M.size (fun k e=>by omega))))
  ·have X:=fun W (K:Z u.1.size u W)=>ze ((ud (a6 W K)).mono (fun e W' hh=>hh.elim (fun h=>absurd h.2.2 ah) id))
   clear a6
   have v:∀(p:Jk×Tsk) (bj:Nat) (T:World),Hid (p∈m.TL/\kw m.QL m.now p.2=true/\QI c m.now (yx (xg m.L) c.qu) m.QL m.TL p.2)->Hid (T.1[bj]?=E (.cells #[I J p.2.kd,I J p.2.s.t,I J p.2.s.se,I J p.2.s.we,I J p.2.si,I J p.2.tc,I J p.2.rest,I J ep,I J (m.num+1),I J slot,I J (m.now+c.le)] 51 (0,0)))->Hid (T.1[w.1.size]?=E (.cells #[I J 0,I J 0,I J 0,I J 0,I J 0,I J 0,I J 0,I J 0,I J 0,I J 0,I J 0] 51 (0,0)))->Hid (w.1.size<bj)->Hid (zy T i c ep {m with num:=m.num+1,QL:=qt m.QL ⟨ep,m.num+1⟩ ⟨p.2.kd,p.2.s,slot,m.now+c.le⟩})->Hid (zk (zU i) w T)->K1 {tmps:=#[.pointer (E ⟨i.x,0,O⟩),I J slot,undef,undef,.pointer (E ⟨w.1.size,0,O⟩),I J 0,.pointer (E ⟨bj,0,O⟩),.bool true,.pointer (E ⟨i.x,0,O⟩),.pointer (E ⟨i.x,0,O⟩),.pointer (E ⟨i.x,0,O⟩),.agg #[I J c.s,I J c.le,I J c.la,I J c.wi,I J c.ke,I J c.qu,.slice a c.n cap],I J slot,.bool true,.bool false,.bool false,.pointer (E ⟨i.x,0,O⟩),.pointer (E ⟨i.x,0,O⟩),.pointer (E ⟨i.x,10,O⟩),.pointer (E ⟨i.b,0,O⟩),I J slot,.bool false,.bool false,undef,.tuple #[.agg #[I J p.2.kd,I J p.2.s.t,I J p.2.s.se,I J p.2.s.we,I J p.2.si,I J p.2.tc,I J p.2.rest,I J ep,I J (m.num+1),I J slot,I J (m.now+c.le)],.bool true],.pointer (E ⟨i.x,0,O⟩),.pointer (E ⟨i.x,0,O⟩),.pointer (E ⟨i.x,10,O⟩),.pointer (E ⟨i.b,0,O⟩),I J slot,.pointer (E ⟨i.x,0,O⟩),.pointer (E ⟨i.x,0,O⟩),.pointer (E ⟨i.x,8,O⟩),I J m.now,.pointer (E ⟨i.x,0,O⟩),.bool (yx (xg m.L) c.qu),.tuple #[.agg #[I J p.2.kd,I J p.2.s.t,I J p.2.s.se,I J p.2.s.we,I J p.2.si,I J p.2.tc,I J p.2.rest,I J ep,I J (m.num+1),I J slot,I J (m.now+c.le)],.bool true],.agg #[I J p.2.kd,I J p.2.s.t,I J p.2.s.se,I J p.2.s.we,I J p.2.si,I J p.2.tc,I J p.2.rest,I J ep,I J (m.num+1),I J slot,I J (m.now+c.le)],.bool true,undef,undef,undef,undef],defers:=[]} T:=by
    intro p bj T G HJ HR aV HM HK
    refine hK1 _ _ ?_
    clear hK1 X a8
    obtain⟨z0,z1,z2,z3,z4,z5,z6,z7,z8,z9,aH⟩:=z11 (ud HR)
    obtain⟨y0,y1,y2,y3,y4,y5,y6,y7,y8,y9,b0⟩:=z11 (ud HJ)
    have zf:=fun j=>zD (ud HR) j
    have zl:=zd (ud HR)
    have yl:=zd (ud HJ)
    go_wp2_with fail
    have hf:=kH (ud HR) (I J p.2.kd) (I J p.2.s.t) (I J p.2.s.se) (I J p.2.s.we) (I J p.2.si) (I J p.2.tc) (I J p.2.rest) (I J ep) (I J (m.num+1)) (I J slot) (I J (m.now+c.le))
    refine bodyPost_ret (zj results16 _ _ w.1.size _ _ _ _ _ rfl rfl hf underlying51 rfl (by kernel_rfl)) rfl ?_
    have B:=qH (w:=T) (g:=w.1.size) (I J p.2.kd) (I J p.2.s.t) (I J p.2.s.se) (I J p.2.s.we) (I J p.2.si) (I J p.2.tc) (I J p.2.rest) (I J ep) (I J (m.num+1)) (I J slot) (I J (m.now+c.le))
    have aL:=(ud H).foot_lt
    exact .inr (.inr ⟨p,ud ap,(ud G).1,(ud G).2.1,(ud G).2.2,rfl,(ud HM).kept B (fun k hk e=>by have:=aL k hk;omega),(ud HK).trans B (fun k hk e=>by omega)⟩)
   go_region_held3 (fun w'=>w'.cell? ⟨i.x,10,O⟩=E (.pointer (E ⟨i.b,0,O⟩))/\w'.cell? ⟨i.x,8,O⟩=E (I J m.now)) (go_keep) (first
    |(go_at_call 35;(with_reducible refine(ud (a8 _ ?hb)).mono ?_);(case hb=>(first|exact(N _ _).drew|exact KW u _));rintro e U ⟨rfl,d⟩;have hv:Z u.1.size u U:=(by first|exact ziX d|exact ziB d);(try have hj:=zew d);have an:=(hv.cell (p:=⟨i.x,10,O⟩) A).trans aG;have s8:=(hv.cell (p:=⟨i.x,8,O⟩) A).trans n8;have y:=Q A hv.size;have aM:¬i.x=U.1.size:=(by omega);have aN:¬U.1.size=i.x:=(by omega);clear d)
    |(go_at_call 39;(with_reducible refine(ud (X _ ?hb)).mono ?_);(case hb=>(first|exact hv|exact hv.alloc hv.size _));rintro e V2 ⟨p,hp,aA,ac,rfl,av,ab⟩;have P:zk (fun k=>k=i.b\/k=i.qb) U V2:=(by first|exact ab|exact zlA ab);(first|(have l:=zkM ab (fun e=>by have:=hv.size;omega))|(have l:=P.heap hj (fun e=>by omega))|skip);have aR:=(zr (i:=10) P (fun e=>aE e) y).trans an;have t8:=(zr (i:=8) P (fun e=>aE e) y).trans s8;have aF:=Q y P.size;(try(obtain⟨j0,j1,j2,j3,j4,j5,j6,j7,j8,j9,aQ⟩:=z11 l;have jf:=fun j=>zD l j;have jl:=zd l;have HJ:=ze l;clear l));have HV:=ze hv;have aI:=ze av;have a4:=ze P;have G:Hid (p∈m.TL/\kw m.QL m.now p.2=true/\QI c m.now (yx (xg m.L) c.qu) m.QL m.TL p.2):=⟨hp,aA,ac⟩;clear ac av P ab hv hp aA))
   all_goals
    have a9:=(ud o).trans ((ud HV).mono (ud o).size)
    have aJ:=(ud a5).later (ud HV)
    have aa:=aJ.putBoard (by rw[ak];exact ud aI) ((ud a4).mono (fun k _ e=>e.elim .inl (fun e=> .inr (.inr e))))
    have ax:=(ud HV).size
    have aW:=(ud a4).size
    have C:=(ud a4).heap (((ud HV).block _ aj).trans (ud a1)) (fun e=>by have:=(ud H).foot_lt i.b (.inr (.inr (.inl rfl)));have:=(ud H).foot_lt i.qb (.inr (.inr (.inr (.inr rfl))));omega)
    have al:zk (zU i) w V2:=(zk.of_below (f:=zU i) a9).trans ((ud a4).mono (fun k _ e=> .inr (.inr (e.elim .inl (fun e=> .inr (.inr e)))))) (fun _ _ e=>e)
    have aU:=aa.foot_lt
    have ad:=(ud a5).foot_lt
   ·exact v p _ _ G (ze (zo V2 _)) (ze ((Below.heap_alloc _ _ _ (zd C)).trans C)) (ze (by omega)) (ze (aa.later ((N _ _).alloc (Y _) _))) (ze (al.trans (zk.of_below ((N _ _).alloc (Y _) _)) (fun _ _ e=>e)))
   ·have B:=qH (w:=V2) (g:=U.1.size) (I J p.2.kd) (I J p.2.s.t) (I J p.2.s.se) (I J p.2.s.we) (I J p.2.si) (I J p.2.tc) (I J p.2.rest) (I J ep) (I J (m.num+1)) (I J slot) (I J (m.now+c.le))
    exact v p _ _ G (ze (kH (ud HJ) (I J p.2.kd) (I J p.2.s.t) (I J p.2.s.se) (I J p.2.s.we) (I J p.2.si) (I J p.2.tc) (I J p.2.rest) (I J ep) (I J (m.num+1)) (I J slot) (I J (m.now+c.le)))) (ze (B.heap C (by omega))) (ze (by omega)) (ze (aa.kept B (fun k hk e=>by have:=ad k hk;omega))) (ze (al.trans B (fun k hk e=>by omega)))
   ·have B:=qH (w:=V2) (g:=u.1.size) (I J p.2.kd) (I J p.2.s.t) (I J p.2.s.se) (I J p.2.s.we) (I J p.2.si) (I J p.2.tc) (I J p.2.rest) (I J ep) (I J (m.num+1)) (I J slot) (I J (m.now+c.le))
    exact v p _ _ G (ze (kH (ud HJ) (I J p.2.kd) (I J p.2.s.t) (I J p.2.s.se) (I J p.2.s.we) (I J p.2.si) (I J p.2.tc) (I J p.2.rest) (I J ep) (I J (m.num+1)) (I J slot) (I J (m.now+c.le)))) (ze (B.heap C (by omega))) (ze (by omega)) (ze (aa.kept B (fun k hk e=>by have:=ad k hk;omega))) (ze (al.trans B (fun k hk e=>by omega)))
end Go.Proofs.YtpbimdkclnekeaaGreat
