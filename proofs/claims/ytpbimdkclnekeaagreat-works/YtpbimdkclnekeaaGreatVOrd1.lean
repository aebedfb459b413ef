import Derived.Test.YtpbimdkclnekeaaGreatVRefM
open Go.Value renaming int → I
open Go.IntKind renaming i64 → J
open Option renaming some → O
open Option renaming none → E
open Nat renaming le_refl → Q
open Go.RowKit.Below renaming refl → U
set_option linter.unusedVariables false
set_option maxRecDepth 20000
set_option maxHeartbeats 4000000
open Go.Proofs.Tryz
namespace Go.Proofs.YtpbimdkclnekeaaGreat
open Go.ChangeMaps (setBlock)
open Go.RowKit Go.Maps Go.Shelf
theorem zhu(c:Cf)(l:c.ok)(a:Option Addr)(cap:Nat)(s:Sg)(j: -1<=s.t)(k:s.t<c.n)(h:0<=s.we/\s.we<=100000)(w:World)(g:TS w a c.n c.F c.W c.K):
  Calls prog 249 #[.agg #[I J s.t,I J s.se,I J s.we],.agg #[I J c.s,I J c.le,I J c.la,I J c.wi,I J c.ke,I J c.qu,.slice a c.n cap]] w fun e w'=>e=.returned (I J ((s.we+1)*c.wh s.t))/\Below w.1.size w w':=by
 obtain⟨o,p,f,r⟩:=box2 w (.cells #[I J s.t,I J s.se,I J s.we] 175) (.cells #[I J c.s,I J c.le,I J c.la,I J c.wi,I J c.ke,I J c.qu,.slice a c.n cap] 80)
 have m:=fun W q=>ze (Vm c l a cap s.t s.we j k h W (g.below (w':=W) q))
 have b:=ze f
 clear g l h f o p
 go_enter func249,ntmps249
 go_wp2_with(first|(go_at_call 170;refine(ud (m _ (ud b))).mono ?_;rintro e u ⟨rfl,d⟩;have i:=ze d;clear d))
 go_ret
 exact⟨rfl,(ud b).trans ((ud i).mono (ud b).size)⟩
theorem zaL(c:Cf)(l:c.ok)(a:Option Addr)(cap:Nat)(s:Sg)(j: -1<=s.t)(k:s.t<c.n)(h:0<=s.we/\s.we<=100000)(w:World)(g:TS w a c.n c.F c.W c.K):
  Calls prog 252 #[.agg #[I J s.t,I J s.se,I J s.we],.agg #[I J c.s,I J c.le,I J c.la,I J c.wi,I J c.ke,I J c.qu,.slice a c.n cap]] w fun e w'=>e=.returned (I J ((s.we+1)*c.wh s.t+c.keep s.t))/\Below w.1.size w w':=by
 obtain⟨o,p,f,r⟩:=box2 w (.cells #[I J s.t,I J s.se,I J s.we] 177) (.cells #[I J c.s,I J c.le,I J c.la,I J c.wi,I J c.ke,I J c.qu,.slice a c.n cap] 80)
 have m:=fun W q=>ze (Jt c l a cap s.t s.we j k h W (g.below (w':=W) q))
 have b:=ze f
 clear g l h f o p
 go_enter func252,ntmps252
 go_wp2_with(first|(go_at_call 149;refine(ud (m _ (ud b))).mono ?_;rintro e u ⟨rfl,d⟩;have i:=ze d;clear d))
 go_ret
 exact⟨rfl,(ud b).trans ((ud i).mono (ud b).size)⟩
theorem zdB{w:World}{b:Nat}{c:Cf}{a:Option Addr}{cap:Nat}{ep num:Int}{tb qb:Nat}{TL:List (Jk×Tsk)}{QL:List (Tok×Lse)}(h:zM w b c (.slice a c.n cap) ep num tb qb TL QL)(x:c.ok)(q:TS w a c.n c.F c.W c.K)(s:Sg)(si tc rest now:Int)(f: -1<=s.t)(g:s.t<c.n)(r:0<=s.we/\s.we<=100000)(P:0<=now/\now<=100000)(a4:0<=si/\si<=now)
  (i j:Nat) (l1:i<w.1.size) (l2:j<w.1.size) (L:w.cell? ⟨i,0,E⟩=O (.pointer (O ⟨b,0,E⟩))) (M:w.cell? ⟨j,0,E⟩=O (I J now)):
  Calls prog 135 #[.agg #[.iface 175 (.agg #[I J s.t,I J s.se,I J s.we]),I J si,I J tc,I J rest],.pointer (O ⟨i,0,E⟩),.pointer (O ⟨j,0,E⟩)] w fun e w'=>e=.returned (I J ((s.we+1)*c.wh s.t-(now-si)/4))/\Below w.1.size w w':=by
 have a0:=h.lt
 have d:Below w.1.size w (w.alloc (.cells #[.iface 175 (.agg #[I J s.t,I J s.se,I J s.we]),I J si,I J tc,I J rest] 162)):=(U _ _).alloc (Q _) _
 have G:=zo w (.cells #[.iface 175 (.agg #[I J s.t,I J s.se,I J s.we]),I J si,I J tc,I J rest] 162)
 have H:=zF w (.cells #[.iface 175 (.agg #[I J s.t,I J s.se,I J s.we]),I J si,I J tc,I J rest] 162)
 have D:=fun W Z=>ze (zhu c x a cap s f g r W (q.below (w':=W) Z))
 have hm:=Vp s
 have Y:0<=(s.we+1)*c.wh s.t/\(s.we+1)*c.wh s.t<=1000000000:=by
  obtain⟨a5,C⟩:=x.wh f g
  obtain⟨a1,a2⟩:=x.keeps f g
  have h1:=Int.mul_nonneg (show 0<=s.we+1 by omega) (show 0<=c.wh s.t by omega)
  have h2:=Int.mul_le_mul (show s.we+1<=100001 by omega) C (by omega) (by omega)
  omega
 obtain⟨v,hv⟩:∃v,(s.we+1)*c.wh s.t=v:=⟨_,rfl⟩
 simp only[hv]at D Y ⊢
 have hq:Int.tdiv (now-si) 4=(now-si)/4:=Int.tdiv_eq_ediv_of_nonneg (by omega)
 have a3:0<=(now-si)/4/\(now-si)/4<=100000:=by omega
 have R:=((h.later d)).head
 obtain⟨k0,k1,-⟩:=zc G
 have m1:=(d.cell (p:=⟨i,0,E⟩) l1).trans L
 have m2:=(d.cell (p:=⟨j,0,E⟩) l2).trans M
 obtain⟨y0,y1,y2,y3,y4,y5,y6,-⟩:=zc R
 have k:=ze d
 have S:=ze H
 have T:=ze hq
 clear h q x r L M R G H d hv
 go_enter func135,ntmps135
 go_wp2_with fail
 have q1:w.1.size<w.1.size+1:=by omega
 have q2:i<w.1.size+1:=by omega
 have q3:j<w.1.size+1:=by omega
 have q4:b<w.1.size+1:=by omega
 generalize(w.alloc (.cells #[.iface 175 (.agg #[I J s.t,I J s.se,I J s.we]),I J si,I J tc,I J rest] 162))=X at*
 generalize V:w.1.size+1=N at*
 have B:Nonempty (zm N X):=zm.some _ _
 have A:=fun(u:zm N X) b o h=>u.cell b o h
 have m:N<=X.1.size:=by rw[ud S];exact Q _
 have y:=ze m
 have l:Hid (w.1.size<=N):=by show w.1.size<=N;omega
 clear m V
 refine zh N (by kernel_rfl) (by kernel_rfl) ?_
 repeat(go_big_quiet_step (first
  |(go_at_call 249;exact Calls.later (ud y) (ud (D _ ((ud k).trans (Below.mono (Subtype.property _) (ud l))))))))
 refine wpQuiet_nil ?_
 rintro⟨w1,z⟩
 clear A B
 dsimp only
 go_wp2_with fail
 go_ret
 exact⟨by first|rfl|rw[ud T],(ud k).trans (z.mono (ud l))⟩
theorem Vw{w:World}{b:Nat}{c:Cf}{a:Option Addr}{cap:Nat}{ep num:Int}{tb qb:Nat}{TL:List (Jk×Tsk)}{QL:List (Tok×Lse)}(h:zM w b c (.slice a c.n cap) ep num tb qb TL QL)(x:c.ok)(q:TS w a c.n c.F c.W c.K)(s:Sg)(si tc rest now:Int)(f: -1<=s.t)(g:s.t<c.n)(r:0<=s.we/\s.we<=100000)(P:0<=now/\now<=100000)(a4:0<=si/\si<=now)
  (i j:Nat) (l1:i<w.1.size) (l2:j<w.1.size) (L:w.cell? ⟨i,0,E⟩=O (.pointer (O ⟨b,0,E⟩))) (M:w.cell? ⟨j,0,E⟩=O (I J now)):
  Calls prog 135 #[.agg #[.iface 177 (.agg #[I J s.t,I J s.se,I J s.we]),I J si,I J tc,I J rest],.pointer (O ⟨i,0,E⟩),.pointer (O ⟨j,0,E⟩)] w fun e w'=>e=.returned (I J ((s.we+1)*c.wh s.t+c.keep s.t-(now-si)/4))/\Below w.1.size w w':=by
 have a0:=h.lt
 have d:Below w.1.size w (w.alloc (.cells #[.iface 177 (.agg #[I J s.t,I J s.se,I J s.we]),I J si,I J tc,I J rest] 162)):=(U _ _).alloc (Q _) _
 have G:=zo w (.cells #[.iface 177 (.agg #[I J s.t,I J s.se,I J s.we]),I J si,I J tc,I J rest] 162)
 have H:=zF w (.cells #[.iface 177 (.agg #[I J s.t,I J s.se,I J s.we]),I J si,I J tc,I J rest] 162)
 have D:=fun W Z=>ze (zaL c x a cap s f g r W (q.below (w':=W) Z))
 have hm:=Qq s
 have Y:0<=(s.we+1)*c.wh s.t+c.keep s.t/\(s.we+1)*c.wh s.t+c.keep s.t<=1000000000:=by
  obtain⟨a5,C⟩:=x.wh f g
  obtain⟨a1,a2⟩:=x.keeps f g
  have h1:=Int.mul_nonneg (show 0<=s.we+1 by omega) (show 0<=c.wh s.t by omega)
  have h2:=Int.mul_le_mul (show s.we+1<=100001 by omega) C (by omega) (by omega)
  omega
 obtain⟨v,hv⟩:∃v,(s.we+1)*c.wh s.t+c.keep s.t=v:=⟨_,rfl⟩
 simp only[hv]at D Y ⊢
 have hq:Int.tdiv (now-si) 4=(now-si)/4:=Int.tdiv_eq_ediv_of_nonneg (by omega)
 have a3:0<=(now-si)/4/\(now-si)/4<=100000:=by omega
 have R:=((h.later d)).head
 obtain⟨k0,k1,-⟩:=zc G
 have m1:=(d.cell (p:=⟨i,0,E⟩) l1).trans L
 have m2:=(d.cell (p:=⟨j,0,E⟩) l2).trans M
 obtain⟨y0,y1,y2,y3,y4,y5,y6,-⟩:=zc R
 have k:=ze d
 have S:=ze H
 have T:=ze hq
 clear h q x r L M R G H d hv
 go_enter func135,ntmps135
 go_wp2_with fail
 have q1:w.1.size<w.1.size+1:=by omega
 have q2:i<w.1.size+1:=by omega
 have q3:j<w.1.size+1:=by omega
 have q4:b<w.1.size+1:=by omega
 generalize(w.alloc (.cells #[.iface 177 (.agg #[I J s.t,I J s.se,I J s.we]),I J si,I J tc,I J rest] 162))=X at*
 generalize V:w.1.size+1=N at*
 have B:Nonempty (zm N X):=zm.some _ _
 have A:=fun(u:zm N X) b o h=>u.cell b o h
 have m:N<=X.1.size:=by rw[ud S];exact Q _
 have y:=ze m
 have l:Hid (w.1.size<=N):=by show w.1.size<=N;omega
 clear m V
 refine zh N (by kernel_rfl) (by kernel_rfl) ?_
 repeat(go_big_quiet_step (first
  |(go_at_call 252;exact Calls.later (ud y) (ud (D _ ((ud k).trans (Below.mono (Subtype.property _) (ud l))))))))
 refine wpQuiet_nil ?_
 rintro⟨w1,z⟩
 clear A B
 dsimp only
 go_wp2_with fail
 go_ret
 exact⟨by first|rfl|rw[ud T],(ud k).trans (z.mono (ud l))⟩
def yP(v:SV):Int:=if v.st=1 then v.cl.cnt else 0
def XE(L:LV):Int:=xX (L.map (fun p=>yP p.2))
section
variable {c:Cf} {L:LV}
theorem jB(x:Nm):∀(k:Nat) (L:LV) {p:Sg×SV},p∈vI c x k L->p∈L\/∃j:Nat,j<k/\p=(zI c (j:Int) x,⟨2,qP⟩)/\zI c (j:Int) x∉zx L
 |0,L,p,h=> .inl h
 |k+1,L,p,h=>by
  have d:p∈qh c x k (vI c x k L):=h
  unfold qh at d
  split at d
  ·rcases jB x k L d with a|⟨j,a,b⟩
   ·exact .inl a
   ·exact .inr ⟨j,by omega,b⟩
  ·rename_i hn
   rcases qm d with rfl|⟨d,_⟩
   ·refine .inr ⟨k,by omega,rfl,fun g=>hn ?_⟩
    clear h d hn
    have e:∀(k:Nat) (s:Sg),s∈zx L->s∈zx (vI c x k L):=fun k=>by
     induction k with
     |zero=>exact fun s h=>h
     |succ k f=>intro s h;show s∈zx (qh c x k _);unfold qh;split;exact f s h;exact xV.2 (.inl (f s h))
    exact e k _ g
   ·rcases jB x k L d with a|⟨j,a,b⟩
    ·exact .inl a
    ·exact .inr ⟨j,by omega,b⟩
theorem vJ(x:Nm):∀(k:Nat) (L:LV) {p:Sg×SV},p∈L->p∈vI c x k L
 |0,L,p,h=>h
 |k+1,L,p,h=>by
  have a:=vJ x k L h
  show p∈qh c x k (vI c x k L)
  unfold qh
  split
  ·exact a
  ·rename_i hn
   unfold yi;rw[if_neg hn];exact List.mem_append_left _ a
theorem Zv(x:Nm):∀(k:Nat) (L:LV),(zx L).Nodup->(zx (vI c x k L)).Nodup
 |0,L,h=>h
 |k+1,L,h=>by
  show(zx (qh c x k (vI c x k L))).Nodup
  unfold qh
  split
  ·exact Zv x k L h
  ·exact kM (Zv x k L h)
theorem ZP(x:Nm):∀(k:Nat) (L:LV) (j:Nat),j<k->zI c (j:Int) x∈zx (vI c x k L)
 |k+1,L,j,h=>by
  show _∈zx (qh c x k (vI c x k L))
  unfold qh
  split
  ·rename_i hm
   by_cases e:j=k
   ·subst e;exact hm
   ·exact ZP x k L j (by omega)
  ·by_cases e:j=k
   ·subst e;exact xV.2 (.inr rfl)
   ·exact xV.2 (.inl (ZP x k L j (by omega)))
theorem Z7{now:Int}(d:c.ok){x:Nm}{t:Int}(a: -1<=t)(b:t<c.n)(f:now-c.la<=x.tm):¬c.clo now (zI c t x):=by
 obtain⟨e,_⟩:=d.wh a b
 have:x.tm<(x.tm/c.wh t+1)*c.wh t:=Int.lt_ediv_add_one_mul_self _ (by omega)
 unfold Cf.clo zI
 dsimp only
 omega
theorem zjO(d:c.ok){x:Nm}(h:0<=x.se/\x.se<4)(e:0<=x.tm/\x.tm<=100000){t:Int}(a: -1<=t)(b:t<c.n):inR c (zI c t x):=by
 obtain⟨i,_⟩:=d.wh a b
 have hn:=d.n4
 have f:0<=x.tm/c.wh t:=Int.ediv_nonneg e.1 (by omega)
 have g:x.tm/c.wh t<=x.tm:=Int.ediv_le_self _ e.1
 refine⟨⟨?_,?_,?_⟩,a,b,f,?_⟩
 ·show yS t;unfold yS;omega
 ·show yS x.se;unfold yS;omega
 ·show yS (x.tm/c.wh t);unfold yS;omega
 ·show x.tm/c.wh t<=100000;omega
theorem zgm(f:c.ok)(g:c.fits){x:Nm}(j:0<=x.tm):(⟨(c.b:Int),x.se,(xq c x).we*c.wi/c.W c.b⟩:Sg)=zI c (c.b:Int) x:=by
 obtain⟨q,i,e⟩:=g.div0
 have h:=f.wi1
 have a:c.wh (c.b:Int)=c.W c.b:=by unfold Cf.wh xd;rw[if_neg (by omega)];simp
 have d:c.wh (-1)=c.wi:=by unfold Cf.wh xd;rw[if_pos rfl]
 unfold xq zI
 rw[a,d]
 dsimp only
 have:x.tm/c.wi*c.wi/c.W c.b=x.tm/c.W c.b:=by
  rw[e,Int.mul_comm c.wi q,Int.mul_ediv_mul_of_pos_left _ _ (by omega),Int.ediv_ediv_of_nonneg (by omega),Int.mul_comm c.wi q]
 rw[this]
end
section
variable {c:Cf} {ep:Int} {m:MS}
theorem MOk.rawAt(h:yZ c m.now m.L m.Gl)(f:c.ok){x:Nm}{v:SV}(hv:kV m.L (xq c x)=O v):v.st=1/\1<=v.cl.cnt/\v.cl.cnt<=400/\ -(v.cl.cnt*2147483648)<=v.cl.sum/\v.cl.sum<=v.cl.cnt*2147483648:=by
 have e:=jU hv
 obtain⟨a,b,d⟩:=h.raw _ e rfl
 exact⟨a,b,h.cnt f _ e rfl,d⟩
theorem zgG(h:yZ c m.now m.L m.Gl)(i:c.ok)(x:Nm)(f:SV->Int)(a:∀d:Cl,f ⟨1,d⟩=d.cnt):xX ((xS c m.L x).map (fun p=>f p.2))=xX (m.L.map (fun p=>f p.2))+1:=by
 unfold xS
 cases b:kV m.L (xq c x)with
 |none=>rw[ZK f (yC.1 b),a];simp[qD]
 |some v=>
  obtain⟨g,_⟩:=MOk.rawAt h i b
  rw[KO h.nl (jU b) f,a]
  have:f v=v.cl.cnt:=by
   have e:v=⟨1,v.cl⟩:=by cases v;simp at g;subst g;rfl
   rw[e,a]
  rw[this];simp[qD];omega
theorem zgH(x:Nm)(f:SV->Int)(a:f ⟨2,qP⟩=0):∀(k:Nat) (L:LV),xX ((vI c x k L).map (fun p=>f p.2))=xX (L.map (fun p=>f p.2))
 |0,L=>rfl
 |k+1,L=>by
  show xX ((qh c x k (vI c x k L)).map (fun p=>f p.2))=_
  unfold qh
  split
  ·exact zgH x f a k L
  ·rename_i hn
   rw[ZK f hn,zgH x f a k L,a];omega
theorem zak(h:yZ c m.now m.L m.Gl)(a:c.ok)(x:Nm):xg (kJ c m.L x)=xg m.L+1+2*yh c m.L x c.n:=by
 unfold kJ;rw[zkd]
 have:=zgG h a x yM (fun b=>by simp[yM])
 unfold xg at*;omega
theorem zeX(h:yZ c m.now m.L m.Gl)(a:c.ok)(x:Nm):XE (kJ c m.L x)=XE m.L+1:=by
 unfold kJ XE
 rw[zgH x yP (by simp[yP]) c.n]
 exact zgG h a x yP (fun b=>by simp[yP])
theorem MOk.added(h:MOk c ep m)(z:c.ok)(M:c.fits){x:Nm}(Y:0<=x.se/\x.se<4)(P:0<=x.tm/\x.tm<=m.now)(S:m.now-c.la<=x.tm)(hv: -2147483648<=x.val/\x.val<=2147483647)(Z:xg m.L+1+2*yh c m.L x c.n<=c.qu):
  MOk c ep {m with L:=kJ c m.L x}:=by
 have g:=h.seg
 have N:=h.now
 have V:=z.n1
 have l:=fun(t:Int) (i: -1<=t) (A:t<c.n)=>Z7 z i A S
 have C:=fun(t:Int) (i: -1<=t) (A:t<c.n)=>zjO z Y ⟨P.1,by omega⟩ i A (x:=x)
 have f:∀p,p∈kJ c m.L x->(p∈m.L/\p.1≠xq c x)\/p=(xq c x,⟨1,qD x.val ((kV m.L (xq c x)).map (·.cl))⟩)\/∃j:Nat,j<c.n/\p=(zI c (j:Int) x,⟨2,qP⟩)/\zI c (j:Int) x∉zx m.L:=fun p a=>by
  rcases jB x c.n _ a with a|⟨j,i,A,B⟩
  ·rcases qm a with rfl|a
   ·exact .inr (.inl rfl)
   ·exact .inl a
  ·exact .inr (.inr ⟨j,i,A,fun T=>B (xV.2 (.inl T))⟩)
 have u:∀p,p∈m.L->p.1≠xq c x->p∈kJ c m.L x:=fun p a o=>vJ x c.n _ (by
  unfold xS yi
  split
  ·exact List.mem_map.2 ⟨p,a,by rw[if_neg o]⟩
  ·exact List.mem_append_left _ a)
 have F:(zx (kJ c m.L x)).Nodup:=Zv x c.n _ (kM g.nl)
 have G:xq c x∈zx (kJ c m.L x):=by
  have:(xq c x,(⟨1,qD x.val ((kV m.L (xq c x)).map (·.cl))⟩:SV))∈kJ c m.L x:=vJ x c.n _ (by
   have q:xq c x∈zx (xS c m.L x):=xV.2 (.inr rfl)
   have:=zY q
   have e:stL (xS c m.L x) (xq c x)=⟨1,qD x.val ((kV m.L (xq c x)).map (·.cl))⟩:=by unfold xS;rw[zgt g.nl,if_pos rfl]
   rw[e]at this;exact this)
  exact List.mem_map.2 ⟨_,this,rfl⟩
 have r:∀k,k∈zx m.L->k∈zx (kJ c m.L x):=fun k q=>by
  by_cases e:k=xq c x
  ·rw[e];exact G
  ·obtain⟨p,a,rfl⟩:=List.mem_map.1 (show k∈m.L.map (·.1)from q)
   exact List.mem_map.2 ⟨p,u p a e,rfl⟩
 have K:∀k,k∈zx m.L->k≠xq c x->stL (kJ c m.L x) k=stL m.L k:=fun k q o=>zld F (u _ (zY q) o)
 have X:(xq c x).t= -1:=rfl
 refine⟨h.now,⟨fun p a=>?_,F,fun p a y=>?_,fun p a y=>?_,fun p a=>?_,g.ng,fun p a B=>?_,g.goc,fun p a y=>?_,?_⟩,fun p a=>?_,h.nt,h.leas,h.nq,h.jobs,h.num⟩
 ·rcases f p a with⟨a,_⟩|rfl|⟨j,D,rfl,_⟩
  ·exact g.inr p a
  ·exact C (-1) (by omega) (by omega)
  ·exact C j (by omega) (by omega)
 ·rcases f p a with⟨a,_⟩|rfl|⟨j,D,rfl,_⟩
  ·exact g.raw p a y
  ·refine⟨rfl,?_⟩
   dsimp only
   cases R:kV m.L (xq c x)with
   |none=>simp[qD];omega
   |some v=>obtain⟨_,b,_,d,e⟩:=MOk.rawAt g z R;simp only[Option.map_some,qD];omega
  ·have:((j:Int))= -1:=y
   omega
 ·rcases f p a with⟨a,_⟩|rfl|⟨j,D,rfl,_⟩
  ·exact g.tier p a y
  ·have:0<=(xq c x).t:=y
   omega
  ·exact .inl rfl
 ·rcases f p a with⟨a,_⟩|rfl|⟨j,D,rfl,_⟩
  ·exact g.disj p a
  ·exact fun q=>l (-1) (by omega) (by omega) (g.goc _ q)
  ·exact fun q=>l j (by omega) (by omega) (g.goc _ q)
 ·rcases f p a with⟨a,_⟩|rfl|⟨j,D,rfl,_⟩
  ·exact g.pubc p a B
  ·simp at B
  ·simp at B
 ·rcases f p a with⟨a,_⟩|rfl|⟨j,D,rfl,_⟩
  ·rcases g.above p a y with H|H
   ·exact .inl (r _ H)
   ·exact .inr H
  ·left
   show(⟨(c.b:Int),x.se,(xq c x).we*c.wi/c.W c.b⟩:Sg)∈_
   rw[zgm z M P.1]
   exact ZP x c.n _ c.b M.bn
  ·have:((j:Int))= -1:=y
   omega
 ·show xg (kJ c m.L x)<=c.qu
  rw[zak g z];exact Z
 ·have i:=h.tg p a
  have o:p.2.s≠xq c x:=fun e=>by
   have:=i.clo
   rw[e]at this
   exact l (-1) (by omega) (by omega) this
  have w:=K _ i.mem o
  exact⟨i.key,r _ i.mem,i.clo,fun e=>by show(stL (kJ c m.L x) p.2.s).st=2;rw[w];exact i.roll e,fun e=>by show(stL (kJ c m.L x) p.2.s).st≠2;rw[w];exact i.recl e,i.si,i.tc⟩
theorem MOk.small(h:MOk c ep m)(g:c.ok):∀p∈m.L,p.1.t= -1->0<=p.2.cl.cnt/\p.2.cl.cnt<=1000000000000/\ -1000000000000000000<=p.2.cl.sum/\p.2.cl.sum<=1000000000000000000:=fun p e f=>by
 obtain⟨_,a,b,d⟩:=h.seg.raw p e f
 have:=h.seg.cnt g p e f
 omega
end
section
variable {c:Cf} {now:Int} {L:LV} {Gl:List (Sg×Unit)}
theorem KQ:∀(L:LV),(∀p∈L,p.2.st=1\/p.2.st=2\/p.2.st=3)->xg L=XE L+2*(xU L 2+xU L 3)
 |[],_=>by simp[xg,XE,xU,xX]
 |p::L,h=>by
  have b:=KQ L (fun q a=>h q (by simp[a]))
  unfold xg XE xU at*
  simp only[List.map_cons,xX]
  have:=h p (by simp)
  unfold yM yP YP
  rcases this with e|e|e<;>simp[e]<;>unfold yM yP YP at b<;>omega
theorem yZ.sts(h:yZ c now L Gl):∀p∈L,p.2.st=1\/p.2.st=2\/p.2.st=3:=fun p a=>by
 have b:=h.inr p a
 by_cases d:p.1.t= -1
 ·exact .inl (h.raw p a d).1
 ·exact .inr (h.tier p a (by have:=b.2.1;omega))
theorem yZ.held1(h:yZ c now L Gl):∀p∈L,p.2.st=1->1<=p.2.cl.cnt:=fun p a e=>by
 have b:=h.inr p a
 by_cases d:p.1.t= -1
 ·exact(h.raw p a d).2.1
 ·have:=h.tier p a (by have:=b.2.1;omega);omega
end
def ZM(c:Cf)(m:MS):Prop:=∃a:List (Sg×Unit),(∀x,x∈zv a↔∃k,k∈zx m.L/\(stL m.L k).st=2/\x∈kg c k)/\(∀s,s∈zx m.L->vq c a m.L m.now s=true->(⟨1,s⟩:Jk)∈zv m.TL)/\(∀s,s∈zx m.L->vo c m.L m.now s=true->(⟨2,s⟩:Jk)∈zv m.TL)
theorem KE{now:Int}:∀(c:List Sg) {T:List (Jk×Tsk)},(∀k,k∈zv T->k∈zv (c.foldl (qW now) T))/\∀s∈c,(⟨1,s⟩:Jk)∈zv (c.foldl (qW now) T)
 |[],T=>⟨fun _ h=>h,fun s b=>by cases b⟩
 |y::c,T=>by
  have d:∀k,k∈zv T\/k=⟨1,y⟩->k∈zv (qW now T y):=fun k a=>by
   unfold qW
   split
   ·rename_i x hx
    rcases a with a|rfl
    ·exact a
    ·exact List.mem_map.2 ⟨_,zK hx,rfl⟩
   ·exact xp.2 a
  obtain⟨e,f⟩:=KE c (T:=qW now T y)
  refine⟨fun k a=>e k (d k (.inl a)),fun s b=>?_⟩
  rcases List.mem_cons.1 b with rfl|b
  ·exact e _ (d _ (.inr rfl))
  ·exact f s b
theorem XP{now:Int}:∀(c:List Sg) {T:List (Jk×Tsk)},(∀k,k∈zv T->k∈zv (c.foldl (yF now) T))/\∀s∈c,(⟨2,s⟩:Jk)∈zv (c.foldl (yF now) T)
 |[],T=>⟨fun _ h=>h,fun s b=>by cases b⟩
 |y::c,T=>by
  have d:∀k,k∈zv T\/k=⟨2,y⟩->k∈zv (yF now T y):=fun k a=>by
   unfold yF
   split
   ·rename_i x hx
    rcases a with a|rfl
    ·exact a
    ·exact List.mem_map.2 ⟨_,zK hx,rfl⟩
   ·exact xp.2 a
  obtain⟨e,f⟩:=XP c (T:=yF now T y)
  refine⟨fun k a=>e k (d k (.inl a)),fun s b=>?_⟩
  rcases List.mem_cons.1 b with rfl|b
  ·exact e _ (d _ (.inr rfl))
  ·exact f s b
section
variable {c:Cf} {ep:Int} {m:MS} {ns:List Nm}
theorem ZM.of{a:List (Jk×Tsk)}(k:qU c m a):ZM c {m with TL:=a}:=by
 obtain⟨g,f,b,j,h,i,rfl⟩:=k.to
 exact⟨g,j,fun s e d=>(XP b).1 _ ((KE f).2 s ((h s).2 ⟨e,d⟩)),fun s e d=>(XP b).2 s ((i s).2 ⟨e,d⟩)⟩
end
def zgV(QL:List (Tok×Lse))(t:Tok):Int:=match zV QL t with|some g=>g.til|none=>0
def tokL(ep:Int)(k:Nat):List Tok:=(List.range k).map (fun j:Nat=>(⟨ep,(j:Int)+1⟩:Tok))
def zlM(ep:Int)(QL:List (Tok×Lse))(k:Nat):List Int:=(List.range k).map (fun j:Nat=>zgV QL ⟨ep,(j:Int)+1⟩)
def zjR(s:Sg):Nat:=((s.t+1)*400004+s.se*100001+s.we).toNat
def JZ(s:Sg):Prop:=0<=s.se/\s.se<4
theorem zgq{c:Cf}(a:c.ok){s:Sg}(h:inR c s)(b:JZ s):zjR s<2000020:=by
 obtain⟨_,d,e,f,g⟩:=h
 obtain⟨i,j⟩:=b
 have:=a.n4
 unfold zjR;omega
theorem zco{c:Cf}{s a:Sg}(h:inR c s)(j:JZ s)(i:inR c a)(b:JZ a)(e:zjR s=zjR a):s=a:=by
 obtain⟨_,x,y,z,A⟩:=h
 obtain⟨B,C⟩:=j
 obtain⟨_,n,o,p,q⟩:=i
 obtain⟨u,w⟩:=b
 obtain⟨t,r,v⟩:=s
 obtain⟨l,k,m⟩:=a
 unfold zjR at e
 dsimp only at*
 have d:t=l:=by omega
 have f:r=k:=by omega
 have g:v=m:=by omega
 rw[d,f,g]
structure SOk(c:Cf)(ep:Int)(m:MS)(nn:Nat):Prop where
 ok:MOk c ep m
 gin:∀k∈zv m.Gl,inR c k/\JZ k
 lin:∀k∈zx m.L,JZ k
 held:XE m.L<=nn
section
variable {c:Cf} {ep:Int} {m:MS} {nn:Nat}
theorem SOk.gl(h:SOk c ep m nn)(n:c.ok):m.Gl.length<=2000020:=by
 have k:=Xi ((zv m.Gl).map zjR) (List.range 2000020) ?_ ?_
 ·simpa[zv]using k
 ·have hn:=h.ok.seg.ng
  have d:=h.gin
  generalize zv m.Gl=l at*
  rw[List.nodup_iff_pairwise_ne,List.pairwise_map]
  refine(List.nodup_iff_pairwise_ne.1 hn).imp_of_mem ?_
  intro a b g i f e
  exact f (zco (d a g).1 (d a g).2 (d b i).1 (d b i).2 e)
 ·intro x o
  obtain⟨s,j,rfl⟩:=List.mem_map.1 o
  exact List.mem_range.2 (zgq n (h.gin s j).1 (h.gin s j).2)
theorem MOk.unt_pos(h:MOk c ep m){t:Tok}{g:Lse}(a:zV m.QL t=O g):zgV m.QL t=g.til/\0<g.til:=by
 have b:=(h.leas _ (zK a)).til
 have d:=h.now
 refine⟨by unfold zgV;rw[a],by dsimp only at b;omega⟩
theorem MOk.unt_none{t:Tok}(a:zV m.QL t=E):zgV m.QL t=0:=by unfold zgV;rw[a]
def zlu(n:Int)(u:Int):Int:=if u<=n then 0 else u
theorem SOk.tick(x:c.ok)(y:c.fits)(h:SOk c ep m nn){n:Int}(hn:1<=n)(i:m.now+n<=100000){e d:List (Jk×Tsk)}{a:List (Tok×Lse)}(r:zbz (m.now+n) m.TL m.QL e a)(u:∀p∈a,m.now+n<p.2.til)
  (z:qU c {m with now:=m.now+n,TL:=e,QL:=a} d):
  SOk c ep {m with now:=m.now+n,TL:=d,QL:=a} nn/\∀k,zlM ep a k=(zlM ep m.QL k).map (zlu (m.now+n)):=by
 have v:=h.ok.exps (n':=m.now+n) ⟨by omega,i⟩ r u
 obtain⟨w,_,_⟩:=MOk.post x y v z
 refine⟨⟨w,h.gin,h.lin,h.held⟩,fun k=>?_⟩
 obtain⟨_,_,i3,_,i5,B,_,_⟩:=zeN (ep:=ep) (c:=c) (L:=m.L) (num:=m.num) (show m.now<=m.now+n by omega) h.ok.tg h.ok.nt h.ok.leas h.ok.nq h.ok.jobs r
 have A:∀t,zgV a t=zlu (m.now+n) (zgV m.QL t):=fun t=>by
  have o:=h.ok.now
  unfold zlu
  cases f:zV m.QL t with
  |none=>
   have:zV a t=E:=by
    cases b:zV a t with
    |none=>rfl
    |some g=>exact absurd (xu h.ok.nq (i5 _ (zK b))) (by rw[f];simp)
   rw[MOk.unt_none f,show zgV a t=0 from by unfold zgV;rw[this]];split<;>rfl
  |some g=>
   rw[(h.ok.unt_pos f).1]
   by_cases s:g.til<=m.now+n
   ·rw[if_pos s]
    have:zV a t=E:=by
     cases b:zV a t with
     |none=>rfl
     |some C=>
      have l:=xu h.ok.nq (i5 _ (zK b))
      rw[f]at l;injection l with l
      have q:=u _ (zK b)
      rw[<-l]at q
      dsimp only at q;omega
    unfold zgV;rw[this]
   ·rw[if_neg s]
    have:=xu i3 (B _ (zK f) (by dsimp only;omega))
    unfold zgV;rw[this]
 unfold zlM
 rw[List.map_map]
 exact List.map_congr_left (fun j _=>A _)
theorem SOk.take(b:c.ok)(h:SOk c ep m nn){p:Jk×Tsk}(e:p∈m.TL)(f:p.2.rest<=m.now)(d:kq m.QL p.2.key=false)(slot:Int):
  SOk c ep {m with num:=m.num+1,QL:=qt m.QL ⟨ep,m.num+1⟩ ⟨p.2.kd,p.2.s,slot,m.now+c.le⟩} nn:=by
 have a:=(h.ok.picked b (k:=p.1) (x:=p.2) (xu h.ok.nt e) f d slot).1
 exact⟨a,h.gin,h.lin,h.held⟩
theorem SOk.fail(h:SOk c ep m nn){t:Tok}{g:Lse}{x:Tsk}(a:zV m.QL t=O g)(b:zV m.TL g.job=O x):
  SOk c ep {m with TL:=qt m.TL g.job (x.failed m.now),QL:=xt m.QL t} nn:=⟨h.ok.failed a b,h.gin,h.lin,h.held⟩
theorem SOk.job(h:SOk c ep m nn)(q:c.ok){t:Tok}{g:Lse}(l:zV m.QL t=O g):∃x,zV m.TL g.job=O x/\g.job.wf/\inR c x.s/\(x.rl=true->∃k:Nat,x.s.t=k)/\0<=x.tc/\x.tc<=1000000:=by
 obtain⟨x,i,r⟩:=(h.ok.leas _ (zK l)).job
 have f:=zK i
 have b:=h.ok.tg _ f
 have a:=h.ok.mem_inR b.mem
 refine⟨x,i,h.ok.wfk _ f,a,fun e=>?_,?_⟩
 ·have d:=b.roll e
  have n:=zY b.mem
  refine⟨x.s.t.toNat,?_⟩
  have o: -1<=x.s.t:=a.2.1
  have p:x.s.t≠ -1:=fun j=>by
   have:=(h.ok.seg.raw _ n j).1
   dsimp only at this d;omega
  omega
 ·have d:=b.tc
  have:=h.ok.now
  dsimp only at d;omega
theorem Jl(h:yZ c m.now m.L m.Gl){s:Sg}(b:s∈zx m.L):0<=yP (stL m.L s):=by
 have a:=zY b
 unfold yP
 split
 ·rename_i h1;have:=h.held1 _ a h1;dsimp only at this;omega
 ·exact Int.le_refl _
theorem SOk.roll(q:c.ok)(r:c.fits)(h:SOk c ep m nn){t:Tok}{g:Lse}{s:Sg}{si tc rest:Int}(u:zV m.QL t=O g)(w:zV m.TL g.job=O ⟨true,s,si,tc,rest⟩)(a:Cl){b:List (Jk×Tsk)}
  (v:qU c {m with L:=yi m.L s ⟨3,a⟩,Gl:=m.Gl,TL:=xt m.TL g.job,QL:=xt m.QL t} b):
  SOk c ep {m with L:=yi m.L s ⟨3,a⟩,Gl:=m.Gl,TL:=b,QL:=xt m.QL t} nn/\xU (yi m.L s ⟨3,a⟩) 2=xU m.L 2-1:=by
 obtain⟨j,f,l,n⟩:=h.ok.rolled u w rfl a
 dsimp only at j f l n
 have o:=(MOk.post q r j v).1
 refine⟨⟨o,h.gin,fun k i=>?_,?_⟩,?_⟩
 ·rcases xV.1 i with i|rfl
  ·exact h.lin k i
  ·exact h.lin _ n
 ·have:=f yP
  have x:=h.held
  have d:yP (stL m.L s)=0:=by unfold yP;rw[if_neg (by omega)]
  have e:yP ⟨3,a⟩=0:=by simp[yP]
  rw[d,e]at this
  unfold XE at*
  show xX ((yi m.L s ⟨3,a⟩).map (fun p=>yP p.2))<=_
  omega
 ·have:=f (YP 2)
  have d:YP 2 (stL m.L s)=1:=by unfold YP;rw[if_pos l]
  have e:YP 2 ⟨3,a⟩=0:=by simp[YP]
  rw[d,e]at this
  unfold xU
  omega
theorem SOk.reclaim(o:c.ok)(q:c.fits)(h:SOk c ep m nn){t:Tok}{g:Lse}{s:Sg}{si tc rest:Int}(r:zV m.QL t=O g)(u:zV m.TL g.job=O ⟨false,s,si,tc,rest⟩){a:List (Jk×Tsk)}
  (e:qU c {m with L:=xt m.L s,Gl:=qt m.Gl s (),TL:=xt m.TL g.job,QL:=xt m.QL t} a):
  SOk c ep {m with L:=xt m.L s,Gl:=qt m.Gl s (),TL:=a,QL:=xt m.QL t} nn/\(qt m.Gl s ()).length=m.Gl.length+1:=by
 obtain⟨f,i,l,d,j⟩:=h.ok.reclaimed r u rfl
 dsimp only at f i l d j
 have n:=(MOk.post o q f e).1
 refine⟨⟨n,fun k b=>?_,fun k b=>?_,?_⟩,j⟩
 ·rcases xp.1 b with b|rfl
  ·exact h.gin k b
  ·exact⟨h.ok.mem_inR d,h.lin _ d⟩
 ·obtain⟨p,e,rfl⟩:=List.mem_map.1 (show k∈(xt m.L s).map (·.1)from b)
  exact h.lin _ (List.mem_map.2 ⟨p,(zZ.1 e).1,rfl⟩)
 ·have:=i yP
  have v:=h.held
  have w:=Jl h.ok.seg d
  unfold XE at*
  show xX ((xt m.L s).map (fun p=>yP p.2))<=_
  omega
theorem zhe{x:Nm}(b:0<=x.se/\x.se<4){L:LV}(h:∀k∈zx L,JZ k):∀k∈zx (kJ c L x),JZ k:=fun k d=>by
 obtain⟨p,a,rfl⟩:=List.mem_map.1 (show k∈(kJ c L x).map (·.1)from d)
 rcases jB x c.n _ a with a|⟨j,e,rfl,f⟩
 ·rcases qm a with rfl|⟨a,_⟩
  ·exact b
  ·exact h _ (List.mem_map.2 ⟨p,a,rfl⟩)
 ·exact b
theorem SOk.ingest(a:c.ok)(d:c.fits)(h:SOk c ep m nn){x:Nm}(b:0<=x.se/\x.se<4)(f:0<=x.tm/\x.tm<=m.now)(e:m.now-c.la<=x.tm)(hv: -2147483648<=x.val/\x.val<=2147483647)(j:xg m.L+(1+2*yh c m.L x c.n)<=c.qu):
  SOk c ep {m with L:=kJ c m.L x} (nn+1)/\xg (kJ c m.L x)=xg m.L+1+2*yh c m.L x c.n:=by
 refine⟨⟨h.ok.added a d b f e hv (by omega),h.gin,zhe b h.lin,?_⟩,zak h.ok.seg a x⟩
 have g:=zeX h.ok.seg a x
 have i:=h.held
 show XE (kJ c m.L x)<=((nn+1:Nat):Int)
 omega
theorem SOk.new(a:c.ok):SOk c ep ⟨0,[],[],0,[],[]⟩ 0:=by
 have b:=a.qu
 refine⟨⟨by dsimp only;omega,⟨by simp,by simp[zx],by simp,by simp,by simp,by simp[zv],by simp,by simp[zv],by simp,?_⟩,by simp,by simp[zv],by simp,by simp[zv],by simp,by dsimp only;omega⟩,by simp[zv],by simp[zx],?_⟩
 ·show xg []<=c.qu
  simp[xg,xX];omega
 ·simp[XE,xX]
end
theorem Xg(l:List Tk)(ep num:Int):(l.findIdx? (Tk.holds ep num)=E/\jd l ep num= -1)\/∃(i:Nat) (x:Tk),l[i]?=O x/\x.holds ep num=true/\l.findIdx? (Tk.holds ep num)=O i/\jd l ep num=i:=by
 cases h:l.findIdx? (Tk.holds ep num)with
 |none=>exact .inl ⟨rfl,by unfold jd;rw[h]⟩
 |some i=>
  obtain⟨b,a,_⟩:=List.findIdx?_eq_some_iff_getElem.1 h
  exact .inr ⟨i,l[i],List.getElem?_eq_getElem b,a,rfl,by unfold jd;rw[h]⟩
def RM.fail(m:RM)(ep num:Int):RM×Int:=match m.tg.findIdx? (Tk.holds ep num)with
 |some i=>({m with tg:=m.tg.modify i (Tk.fail m.now)},0)
 |none=>(m,8)
theorem Kt{l:List Tk}{i:Nat}{x:Tk}(f:Tk->Tk)(h:l[i]?=O x):l.modify i f=l.set i (f x):=by
 obtain⟨a,b⟩:=List.getElem?_eq_some_iff.1 h
 apply List.ext_getElem?
 intro j
 rw[List.getElem?_modify,List.getElem?_set]
 by_cases e:i=j
 ·subst e
  simp[b,a]
 ·simp[e]
theorem zge{B:Nat}{w:World}{p:Nat}{m:RM}{tv nv pv gv kv:Value}(h:zJ B w p m tv nv pv gv kv)(l:m.tg.length<=1000000000)(n:0<=m.now/\m.now<=100000)(o:∀x∈m.tg,0<=x.tc/\x.tc<=1000000000)(ep num:Int):
  Calls prog 156 #[.pointer (O ⟨p,0,E⟩),.agg #[I J ep,I J num]] w fun e w'=>e=.returned (I J (m.fail ep num).2)/\zJ B w' p (m.fail ep num).1 tv nv pv gv kv/\zk (fun k=>kv.ownBlock=O k) w w':=by
 have d:Below w.1.size w (w.alloc (.cells #[I J ep,I J num] 49)):=(U _ _).alloc (Q _) _
 have v:=zo w (.cells #[I J ep,I J num] 49)
 obtain⟨G,K,-⟩:=zc v
 have L:=zd v
 have q:=ze (Yu (h.later d) l ep num)
 have b:=ze d
 clear v d
 rcases Xg m.tg ep num with⟨r,j⟩|⟨i,x,f,r,j,z⟩
 ·have s:Hid (m.fail ep num=(m,8)):=by show m.fail ep num=(m,8);unfold RM.fail;rw[r]
  rw[j]at q
  rw[ud s]
  have H:=ze h
  clear h r j
  go_enter func156,ntmps156
  go_wp2_with fail
  refine(ud q).mono ?_
  rintro e F ⟨rfl,c⟩
  go_wp2_with fail
  go_ret
  have a:=(ud b).trans (c.mono (ud b).size)
  exact⟨rfl,(ud H).later a,zk.of_below a⟩
 ·have s:Hid (m.fail ep num=({m with tg:=m.tg.set i (x.fail m.now)},0)):=by show m.fail ep num=_;unfold RM.fail;rw[j];simp only;rw[Kt _ f]
  rw[z]at q
  rw[ud s]
  obtain⟨g,cap,hv,-⟩:=Zd h.krow f
  subst hv
  have H:=ze h
  have D:i<m.tg.length:=(List.getElem?_eq_some_iff.1 f).1
  have y:=ze f
  have u:=ze (o x (List.mem_of_getElem? f))
  clear h r j f o
  go_enter func156,ntmps156
  go_wp2_with fail
  refine(ud q).mono ?_
  rintro e F ⟨rfl,c⟩
  have a:=(ud b).trans (c.mono (ud b).size)
  have t:=ze (KI ((ud H).later a) l (ud y) (ud u) n)
  go_wp2_with fail
  refine(ud t).mono ?_
  rintro e M ⟨rfl,C,A⟩
  go_wp2_with fail
  go_ret
  exact⟨rfl,C,(zk.of_below a).trans A (fun k _ e=>by rw[e];rfl)⟩
theorem zJ.setPub{B:Nat}{w j:World}{p:Nat}{m:RM}{tv nv pv gv kv z:Value}{x:Sg}(h:zJ B w p m tv nv pv gv kv)(l:∀k,pv.ownBlock=O k->¬gv.ownBlock=O k)(f:zk (fun k=>pv.ownBlock=O k) w j)(d:j.ownsRow B 232 3 z (m.pub++[x]).length ((m.pub++[x]).flatMap sgV)):zJ B (j.setCell ⟨p,9,E⟩ z) p {m with pub:=m.pub++[x]} tv nv z gv kv:=by
 have c:=f.heap h.head (fun e=>zt h.head h.prow (by decide) p e rfl)
 have g:zk (fun k=>k=p) j (j.setCell ⟨p,9,E⟩ z):=zn (zk.refl _ _) rfl
 have n:=zi h.trow f (xK h.trow h.prow (by decide))
 have o:=zi h.nrow f (xK h.nrow h.prow (by decide))
 have q:=zi h.grow f (fun k a b=>l k b a)
 have r:=zi h.krow f (xK h.krow h.prow (by decide))
 exact⟨xm (i:=9) c z,h.base,zi n g (zt c n (by decide)),zi o g (zt c o (by decide)),zi d g (zt c d (by decide)),zi q g (zt c q (by decide)),zi r g (zt c r (by decide))⟩
theorem zgd{B:Nat}{w:World}{p:Nat}{m:RM}{tv nv pv gv kv:Value}(h:zJ B w p m tv nv pv gv kv)(F:∀k,pv.ownBlock=O k->¬gv.ownBlock=O k)(hB:B<=w.1.size)(hc:m.c.ok)(a2:m.nu.length<=1000000000)(ae:m.gone.length<=1000000000)(ag:m.pub.length<=1000000000)(af:m.tg.length<=1000000000)(a3:∀x∈m.nu,x.ok)(K:0<=m.now/\m.now<=100000)(s:Sg):
  Calls prog 203 #[.pointer (O ⟨p,0,E⟩),I J 1,.agg #[I J s.t,I J s.se,I J s.we]] w fun e w'=>e=.returned (.tuple #[])/\∃z q,zJ B w' p {m with pub:=m.pub++[s]}.settled tv nv z gv q/\zk (fun k=>k=p\/pv.ownBlock=O k) w w'/\(∀k,z.ownBlock=O k->pv.ownBlock=O k\/w.1.size<=k)/\∀k,q.ownBlock=O k->w.1.size<=k:=by
 obtain⟨N,P,a4⟩:=zq h.prow
 subst a4
 have y:Below w.1.size w (w.alloc (.cells #[I J s.t,I J s.se,I J s.we] 232)):=(U _ _).alloc (Q _) _
 have q0:=zo w (.cells #[I J s.t,I J s.se,I J s.we] 232)
 have D:=h.later y
 have ad:=zF w (.cells #[I J s.t,I J s.se,I J s.we] 232)
 obtain⟨r7,r8,r9,a5,a6,a7,a8⟩:=D.rest
 have hp:=D.lt
 have rf:=zD D.head 9
 obtain⟨n0,n1,n2,-⟩:=zc q0
 have bl:=zd q0
 have H:=ze h
 have Y:=ze D
 have n:=ze y
 have R:=ze F
 clear h r7 r8 a5 a6 a7 a8 D y q0 F
 go_enter func203,ntmps203
 go_wp2_with fail
 generalize(w.alloc (.cells #[I J s.t,I J s.se,I J s.we] 232))=X at*
 have r:=ze (ud Y).prow
 have ac:B<=X.1.size:=Nat.le_trans hB (ud n).size
 have za:∀o:Obj,(X.alloc o).cell? ⟨p,9,E⟩=O (.slice N m.pub.length P):=fun o=>(((U X.1.size X).alloc (Q _) o).cell (p:=⟨p,9,E⟩) hp).trans r9
 go_region_law (refine YA rfl (.tmp 12) (.tmp 14) 187 232 3 24 rfl underlying187 Tryz.infoSegment rfl (by decide) B (.slice N m.pub.length P) m.pub.length (m.pub.flatMap sgV) (by simp[Act.eval]) (Z5 ((ud r).alloc _)) X.1.size (sgV s) 232 (0,0) (by simp[Act.eval]) (Z4 X _) rfl (VM s) ?h63 ?hby ?hbs ?_;(case h63=>(simp only[maxLen];omega));(case hby=>omega);(case hbs=>(rw[kN];omega));intro Z d C u b G a9;have f:=jg b;clear b;have j:zk (fun k=>(Value.slice N m.pub.length P).ownBlock=O k) X C:=zk.grown ((zk.refl _ _).alloc _) f (fun k A _=>A);have L:C.1[p]?=X.1[p]?:=(j.block p hp (fun e=>zt (ud Y).head (ud r) (by decide) p e rfl));have d0:=(World.cell?_of_block (a:=⟨p,9,E⟩) L).trans r9;have d1:=(World.frozen?_of_block (a:=⟨p,9,E⟩) L).trans rf)
 all_goals
  have l:C.ownsRow B 232 3 (.slice (O ⟨Z,0,E⟩) (m.pub.length+1) d) (m.pub++[s]).length ((m.pub++[s]).flatMap sgV):=by
   rw[List.length_append,List.flatMap_append,List.length_singleton,List.flatMap_singleton];exact u
  have H5:=ze ((ud Y).setPub (ud R) j l)
  have ab:X.1.size<=C.1.size:=j.size
  have aa:(C.setCell ⟨p,9,E⟩ (.slice (O ⟨Z,0,E⟩) (m.pub.length+1) d)).1.size=C.1.size:=by simp[World.setCell]
  have W:=ze (Z9 (ud H5) (by omega) hc a2 (by first|(show(m.gone++[s]).length<=1000000000000;simp;omega)|(show m.gone.length<=1000000000000;omega)) (by first|(show(m.pub++[s]).length<=1000000000000;simp;omega)|(show m.pub.length<=1000000000000;omega)) (by show m.tg.length<=1000000000000;omega) a3 K)
  have S:=ze G
  have T:=ze j
  clear G j u l f
  go_wp2_with fail
  refine(ud W).mono ?_
  rintro e w6 ⟨rfl,q,M,a1,a0⟩
  have V:=ze M
  clear M
  go_wp2_with fail
  go_end0
  refine⟨rfl,_,q,ud V,?_,fun k A=>?_,fun k A=>?_⟩
  ·have k1:zk (fun k=>k=p\/(Value.slice N m.pub.length P).ownBlock=O k) w X:=zk.of_below (ud n)
   have k2:=k1.trans (ud T) (fun _ _ h=> .inr h)
   have k3:=zn (i:=9) (g:=p) (v:=.slice (O ⟨Z,0,E⟩) (m.pub.length+1) d) k2 (.inl rfl)
   exact k3.trans a1 (fun _ _ h=> .inl h)
  ·simp[Value.ownBlock]at A
   subst A
   rcases ud S with h|h
   ·exact .inl h
   ·refine .inr ?_
    rw[h]
    have:=(ud n).size
    first|exact this|(rw[kN];omega)|omega
  ·have:=a0 k A
   have:=(ud n).size
   omega
theorem zJ.setGone{B:Nat}{w j:World}{p:Nat}{m:RM}{tv nv pv gv kv z:Value}{x:Sg}(h:zJ B w p m tv nv pv gv kv)(l:∀k,pv.ownBlock=O k->¬gv.ownBlock=O k)(f:zk (fun k=>gv.ownBlock=O k) w j)(d:j.ownsRow B 232 3 z (m.gone++[x]).length ((m.gone++[x]).flatMap sgV)):zJ B (j.setCell ⟨p,10,E⟩ z) p {m with gone:=m.gone++[x]} tv nv pv z kv:=by
 have c:=f.heap h.head (fun e=>zt h.head h.grow (by decide) p e rfl)
 have g:zk (fun k=>k=p) j (j.setCell ⟨p,10,E⟩ z):=zn (zk.refl _ _) rfl
 have n:=zi h.trow f (xK h.trow h.grow (by decide))
 have o:=zi h.nrow f (xK h.nrow h.grow (by decide))
 have q:=zi h.prow f (fun k a b=>l k a b)
 have r:=zi h.krow f (xK h.krow h.grow (by decide))
 exact⟨xm (i:=10) c z,h.base,zi n g (zt c n (by decide)),zi o g (zt c o (by decide)),zi q g (zt c q (by decide)),zi d g (zt c d (by decide)),zi r g (zt c r (by decide))⟩
theorem zdG{B:Nat}{w:World}{p:Nat}{m:RM}{tv nv pv gv kv:Value}(h:zJ B w p m tv nv pv gv kv)(F:∀k,pv.ownBlock=O k->¬gv.ownBlock=O k)(hB:B<=w.1.size)(hc:m.c.ok)(a2:m.nu.length<=1000000000)(ad:m.gone.length<=1000000000)(af:m.pub.length<=1000000000)(ae:m.tg.length<=1000000000)(a3:∀x∈m.nu,x.ok)(K:0<=m.now/\m.now<=100000)(s:Sg):
  Calls prog 203 #[.pointer (O ⟨p,0,E⟩),I J 2,.agg #[I J s.t,I J s.se,I J s.we]] w fun e w'=>e=.returned (.tuple #[])/\∃z q,zJ B w' p {m with gone:=m.gone++[s]}.settled tv nv pv z q/\zk (fun k=>k=p\/gv.ownBlock=O k) w w'/\(∀k,z.ownBlock=O k->gv.ownBlock=O k\/w.1.size<=k)/\∀k,q.ownBlock=O k->w.1.size<=k:=by
 obtain⟨P,R,a4⟩:=zq h.grow
 subst a4
 have y:Below w.1.size w (w.alloc (.cells #[I J s.t,I J s.se,I J s.we] 232)):=(U _ _).alloc (Q _) _
 have q0:=zo w (.cells #[I J s.t,I J s.se,I J s.we] 232)
 have D:=h.later y
 have ac:=zF w (.cells #[I J s.t,I J s.se,I J s.we] 232)
 obtain⟨r7,r8,r9,N,a5,a6,a7⟩:=D.rest
 have hp:=D.lt
 have rf:=zD D.head 10
 obtain⟨n0,n1,n2,-⟩:=zc q0
 have bl:=zd q0
 have H:=ze h
 have Z:=ze D
 have n:=ze y
 have S:=ze F
 clear h r7 r8 r9 a5 a6 a7 D y q0 F
 go_enter func203,ntmps203
 go_wp2_with fail
 generalize(w.alloc (.cells #[I J s.t,I J s.se,I J s.we] 232))=X at*
 have r:=ze (ud Z).grow
 have ab:B<=X.1.size:=Nat.le_trans hB (ud n).size
 have za:∀o:Obj,(X.alloc o).cell? ⟨p,10,E⟩=O (.slice P m.gone.length R):=fun o=>(((U X.1.size X).alloc (Q _) o).cell (p:=⟨p,10,E⟩) hp).trans N
 go_region_law (refine YA rfl (.tmp 22) (.tmp 24) 187 232 3 24 rfl underlying187 Tryz.infoSegment rfl (by decide) B (.slice P m.gone.length R) m.gone.length (m.gone.flatMap sgV) (by simp[Act.eval]) (Z5 ((ud r).alloc _)) X.1.size (sgV s) 232 (0,0) (by simp[Act.eval]) (Z4 X _) rfl (VM s) ?h63 ?hby ?hbs ?_;(case h63=>(simp only[maxLen];omega));(case hby=>omega);(case hbs=>(rw[kN];omega));intro g3 d C u b G a8;have f:=jg b;clear b;have j:zk (fun k=>(Value.slice P m.gone.length R).ownBlock=O k) X C:=zk.grown ((zk.refl _ _).alloc _) f (fun k A _=>A);have L:C.1[p]?=X.1[p]?:=(j.block p hp (fun e=>zt (ud Z).head (ud r) (by decide) p e rfl));have d0:=(World.cell?_of_block (a:=⟨p,10,E⟩) L).trans N;have d1:=(World.frozen?_of_block (a:=⟨p,10,E⟩) L).trans rf)
 all_goals
  have l:C.ownsRow B 232 3 (.slice (O ⟨g3,0,E⟩) (m.gone.length+1) d) (m.gone++[s]).length ((m.gone++[s]).flatMap sgV):=by
   rw[List.length_append,List.flatMap_append,List.length_singleton,List.flatMap_singleton];exact u
  have H5:=ze ((ud Z).setGone (ud S) j l)
  have aa:X.1.size<=C.1.size:=j.size
  have a9:(C.setCell ⟨p,10,E⟩ (.slice (O ⟨g3,0,E⟩) (m.gone.length+1) d)).1.size=C.1.size:=by simp[World.setCell]
  have Y:=ze (Z9 (ud H5) (by omega) hc a2 (by first|(show(m.gone++[s]).length<=1000000000000;simp;omega)|(show m.gone.length<=1000000000000;omega)) (by first|(show(m.pub++[s]).length<=1000000000000;simp;omega)|(show m.pub.length<=1000000000000;omega)) (by show m.tg.length<=1000000000000;omega) a3 K)
  have T:=ze G
  have V:=ze j
  clear G j u l f
  go_wp2_with fail
  refine(ud Y).mono ?_
  rintro e w6 ⟨rfl,q,M,a1,a0⟩
  have W:=ze M
  clear M
  go_wp2_with fail
  go_end0
  refine⟨rfl,_,q,ud W,?_,fun k A=>?_,fun k A=>?_⟩
  ·have k1:zk (fun k=>k=p\/(Value.slice P m.gone.length R).ownBlock=O k) w X:=zk.of_below (ud n)
   have k2:=k1.trans (ud V) (fun _ _ h=> .inr h)
   have k3:=zn (i:=10) (g:=p) (v:=.slice (O ⟨g3,0,E⟩) (m.gone.length+1) d) k2 (.inl rfl)
   exact k3.trans a1 (fun _ _ h=> .inl h)
  ·simp[Value.ownBlock]at A
   subst A
   rcases ud T with h|h
   ·exact .inl h
   ·refine .inr ?_
    rw[h]
    have:=(ud n).size
    first|exact this|(rw[kN];omega)|omega
  ·have:=a0 k A
   have:=(ud n).size
   omega
end Go.Proofs.YtpbimdkclnekeaaGreat
