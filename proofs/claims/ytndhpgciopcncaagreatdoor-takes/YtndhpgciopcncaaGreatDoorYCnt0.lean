import Derived.Test.YtndhpgciopcncaaGreatDoorYSum1
import Derived.Test.YtndhpgciopcncaaGreatDoorYSum3
import Derived.Laws.ResultCell
import Derived.Deep.RegionHeld3
open Go.Value renaming int → I
open Go.IntKind renaming i64 → O
open Option renaming none → E
open Option renaming some → Q
open Nat renaming le_refl → U
open Go.RowKit renaming Below → G
open Go renaming World → R
open Go.RowKit.Below renaming refl → T
open Nat renaming lt_of_lt_of_le → M
open Go renaming Value → z9
open Go.IntKind renaming i32 → za
open Nat renaming le_trans → zf
set_option linter.unusedVariables false
set_option maxRecDepth 100000
set_option maxHeartbeats 8000000
open Go.Proofs.Tryz
namespace Go.Proofs.YtndhpgciopcncaaGreatDoor
open Go.ChangeMaps (setBlock)
open Go.RowKit Go.Maps Go.Shelf
theorem zbx{n m:Nat}{w W:R}(h:KX (fun _=>False) n m w W)(hn:w.1.size<=n):G w.1.size w W:=⟨h.kept.os,h.kept.tape,h.kept.output,h.kept.size,fun k a=>h.low (by omega) (fun e=>e) a⟩
theorem zjr(gf:Nat)(lb:Array z9)(c:Nat)(a b:Array z9)(w:R):
  Calls prog 151 #[.func (.func gf) #[] lb,.func (.func c) a b] w fun e w'=>e=.returned (.func (.func 225) #[] #[.pointer (Q ⟨w.1.size,0,E⟩),.pointer (Q ⟨w.1.size+1,0,E⟩)])/\w'=((w.alloc (.cells #[.func (.func gf) #[] lb] 150)).alloc (.cells #[.func (.func c) a b] 158)):=by
 go_enter func151,ntmps151
 go_wp2_with fail
 go_ret
 exact⟨rfl,rfl⟩
theorem zjq:∀args w,(callFunc 225 args).run prog w=.ok (.enter 225 args) w:=enters_of func225 (by kernel_rfl) rfl
theorem ziK(x:SX)(w:R):Calls prog 152 #[.agg #[I O x.1.t,I O x.1.se,I O x.1.wn,I O x.2.st,I O x.2.cl.cnt,I O x.2.cl.sum,I za x.2.cl.mn,I za x.2.cl.mx]] w fun e w'=>e=.returned (I O 1)/\G w.1.size w w':=by
 have a:G w.1.size w (w.alloc (.cells #[I O x.1.t,I O x.1.se,I O x.1.wn,I O x.2.st,I O x.2.cl.cnt,I O x.2.cl.sum,I za x.2.cl.mn,I za x.2.cl.mx] 148)):=(T _ _).alloc (U _) _
 go_enter func152,ntmps152
 go_wp2_with fail
 go_ret
 first|exact⟨rfl,a⟩|exact⟨rfl,T _ _⟩
theorem zih(gf:Nat)(lb:Array z9)(r:∀args w,(callFunc gf args).run prog w=.ok (.enter gf args) w)(c:Nat)(a g:Array z9)(s:∀args w,(callFunc c args).run prog w=.ok (.enter c args) w){N:Nat}{S:List SX->Prop}(p:SX->Bool)(w:R)
  (k:∀(x:SX) (W:R),G w.1.size w W->Calls prog c (a++#[.agg #[I O x.1.t,I O x.1.se,I O x.1.wn,I O x.2.st,I O x.2.cl.cnt,I O x.2.cl.sum,I za x.2.cl.mn,I za x.2.cl.mx]]++g) W fun e B=>e=.returned (.bool (p x))/\G W.1.size W B)
  (f:jW (fun _=>False) w.1.size prog gf lb (fun x:SX=>#[.agg #[I O x.1.t,I O x.1.se,I O x.1.wn,I O x.2.st,I O x.2.cl.cnt,I O x.2.cl.sum,I za x.2.cl.mn,I za x.2.cl.mx]]) S N w) (C:∀xs,S xs->xs.length<=9223372036854775807):
  Calls prog 90 #[.func (.func gf) #[] lb,.func (.func c) a g] w fun e w'=>∃xs,S xs/\e=.returned (I O (xs.filter p).length)/\G w.1.size w w':=by
 obtain⟨o,q,b,i⟩:=box2 w (.cells #[.func (.func gf) #[] lb] 150) (.cells #[.func (.func c) a g] 158)
 have v:jW (fun _=>False) (w.1.size+2) prog 225 #[.pointer (Q ⟨w.1.size,0,E⟩),.pointer (Q ⟨w.1.size+1,0,E⟩)] (fun x:SX=>#[.agg #[I O x.1.t,I O x.1.se,I O x.1.wn,I O x.2.st,I O x.2.cl.cnt,I O x.2.cl.sum,I za x.2.cl.mn,I za x.2.cl.mx]]) (fun y=>∃xs,S xs/\y=xs.filter p) N ((w.alloc (.cells #[.func (.func gf) #[] lb] 150)).alloc (.cells #[.func (.func c) a g] 158)):=
  zfR gf lb r c a g s p w.1.size (w.1.size+1) _ (by rw[i];omega) ⟨by omega,fun e=>e⟩ ⟨by omega,fun e=>e⟩ o q (fun x W ⟨m,D⟩=>k x W (b.trans ((zbx D (by rw[i];omega)).mono (by rw[i];omega)))) ((f.later b).lower (by omega))
 have z:=zd (zfz 225 _ zjq (fun _=>1) _ (by rw[i];omega) (fun x W _=>ziK x W) v)
 have A:=zd (zjr gf lb c a g w)
 have n:=zd b
 clear k f v o q b i r s
 go_enter func90,ntmps90
 go_wp2_with(first
  |(go_at_call 151;refine(ud A).mono ?_;rintro e F ⟨rfl,rfl⟩)
  |(go_at_call 87;refine(ud z).mono ?_;rintro e H ⟨y,⟨xs,u,rfl⟩,rfl,j⟩;have l:=zd j;have h:=zd u;clear j u))
 go_ret
 have d:=zf (v7 p xs) (C xs (ud h))
 refine⟨xs,ud h,by(first|rw[ZT _ d]|rw[ZT _ (by rw[List.length_unattach];exact d),List.length_unattach]);rfl,(ud n).trans ((ud l).mono (ud n).size)⟩
theorem Yk(gf:Nat)(lb:Array z9)(c:Nat)(a b:Array z9)(w:R):
  Calls prog 124 #[.func (.func gf) #[] lb,.func (.func c) a b] w fun e w'=>e=.returned (.func (.func 194) #[] #[.pointer (Q ⟨w.1.size,0,E⟩),.pointer (Q ⟨w.1.size+1,0,E⟩)])/\w'=((w.alloc (.cells #[.func (.func gf) #[] lb] 199)).alloc (.cells #[.func (.func c) a b] 206)):=by
 go_enter func124,ntmps124
 go_wp2_with fail
 go_ret
 exact⟨rfl,rfl⟩
theorem Yj:∀args w,(callFunc 194 args).run prog w=.ok (.enter 194 args) w:=enters_of func194 (by kernel_rfl) rfl
theorem ziJ{α:Type}(a:α->Sg)(x:α)(w:R):Calls prog 182 #[.agg #[I O (a x).t,I O (a x).se,I O (a x).wn]] w fun e w'=>e=.returned (I O 1)/\G w.1.size w w':=by
 have b:G w.1.size w (w.alloc (.cells #[I O (a x).t,I O (a x).se,I O (a x).wn] 146)):=(T _ _).alloc (U _) _
 go_enter func182,ntmps182
 go_wp2_with fail
 go_ret
 first|exact⟨rfl,b⟩|exact⟨rfl,T _ _⟩
theorem zdX{α:Type}(b:α->Sg)(gf:Nat)(lb:Array z9)(s:∀args w,(callFunc gf args).run prog w=.ok (.enter gf args) w)(d:Nat)(a h:Array z9)(u:∀args w,(callFunc d args).run prog w=.ok (.enter d args) w){N:Nat}{S:List α->Prop}(p:α->Bool)(w:R)
  (l:∀(x:α) (W:R),G w.1.size w W->Calls prog d (a++#[.agg #[I O (b x).t,I O (b x).se,I O (b x).wn]]++h) W fun e C=>e=.returned (.bool (p x))/\G W.1.size W C)
  (g:jW (fun _=>False) w.1.size prog gf lb (fun x:α=>#[.agg #[I O (b x).t,I O (b x).se,I O (b x).wn]]) S N w) (D:∀xs,S xs->xs.length<=9223372036854775807):
  Calls prog 119 #[.func (.func gf) #[] lb,.func (.func d) a h] w fun e w'=>∃xs,S xs/\e=.returned (I O (xs.filter p).length)/\G w.1.size w w':=by
 obtain⟨q,r,c,j⟩:=box2 w (.cells #[.func (.func gf) #[] lb] 199) (.cells #[.func (.func d) a h] 206)
 have y:jW (fun _=>False) (w.1.size+2) prog 194 #[.pointer (Q ⟨w.1.size,0,E⟩),.pointer (Q ⟨w.1.size+1,0,E⟩)] (fun x:α=>#[.agg #[I O (b x).t,I O (b x).se,I O (b x).wn]]) (fun z=>∃xs,S xs/\z=xs.filter p) N ((w.alloc (.cells #[.func (.func gf) #[] lb] 199)).alloc (.cells #[.func (.func d) a h] 206)):=
  jj b gf lb s d a h u p w.1.size (w.1.size+1) _ (by rw[j];omega) ⟨by omega,fun e=>e⟩ ⟨by omega,fun e=>e⟩ q r (fun x W ⟨m,F⟩=>l x W (c.trans ((zbx F (by rw[j];omega)).mono (by rw[j];omega)))) ((g.later c).lower (by omega))
 have A:=zd (zfy b 194 _ Yj (fun _=>1) _ (by rw[j];omega) (fun x W _=>ziJ b x W) y)
 have B:=zd (Yk gf lb d a h w)
 have o:=zd c
 clear l g y q r c j s u
 go_enter func119,ntmps119
 go_wp2_with(first
  |(go_at_call 124;refine(ud B).mono ?_;rintro e H ⟨rfl,rfl⟩)
  |(go_at_call 181;refine(ud A).mono ?_;rintro e J ⟨z,⟨xs,v,rfl⟩,rfl,k⟩;have n:=zd k;have i:=zd v;clear k v))
 go_ret
 have f:=zf (v7 p xs) (D xs (ud i))
 refine⟨xs,ud i,by(first|rw[ZT _ f]|rw[ZT _ (by rw[List.length_unattach];exact f),List.length_unattach]);rfl,(ud o).trans ((ud n).mono (ud o).size)⟩
structure xl(w:R)(s:Nat)(c:Cf)(tv:z9)(lb gb:Nat)(Gl:List (Sg×Unit))(L:LV):Prop where
 head:w.1[s]?=Q (.cells #[I O c.s,I O c.le,I O c.la,I O c.wi,I O c.ke,I O c.qu,tv,.map (Q lb),.map (Q gb)] 155 (0,0))
 trow:w.ownsRow 0 80 3 tv c.n (ZM c.n c.F c.W c.K)
 live:qQ w lb L
 gone:xj vf w gb Gl
 apart:gb≠lb
structure kj(w:R)(s:Nat)(c:Cf)(tv:z9)(lb gb:Nat):Prop where
 head:w.1[s]?=Q (.cells #[I O c.s,I O c.le,I O c.la,I O c.wi,I O c.ke,I O c.qu,tv,.map (Q lb),.map (Q gb)] 155 (0,0))
 trow:w.ownsRow 0 80 3 tv c.n (ZM c.n c.F c.W c.K)
theorem xl.hd{w:R}{s:Nat}{c:Cf}{tv:z9}{lb gb:Nat}{Gl:List (Sg×Unit)}{L:LV}(h:xl w s c tv lb gb Gl L):kj w s c tv lb gb:=⟨h.head,h.trow⟩
theorem kj.lt{w:R}{s:Nat}{c:Cf}{tv:z9}{lb gb:Nat}(h:kj w s c tv lb gb):s<w.1.size:=zb h.head
theorem kj.kept{f:Nat->Prop}{w w':R}{s:Nat}{c:Cf}{tv:z9}{lb gb:Nat}(h:kj w s c tv lb gb)(a:zk f w w')(b:¬f s)(d:∀k,tv.ownBlock=Q k->¬f k):kj w' s c tv lb gb:=⟨a.heap h.head b,zg h.trow a d⟩
theorem kj.later{w w':R}{s:Nat}{c:Cf}{tv:z9}{lb gb:Nat}(h:kj w s c tv lb gb)(a:G w.1.size w w'):kj w' s c tv lb gb:=h.kept (f:=fun _=>False) (zk.of_below a) (fun h=>h) (fun _ _ h=>h)
theorem kj.cells{w:R}{s:Nat}{c:Cf}{tv:z9}{lb gb:Nat}(h:kj w s c tv lb gb):w.cell? ⟨s,0,E⟩=Q (I O c.s)/\w.cell? ⟨s,1,E⟩=Q (I O c.le)/\w.cell? ⟨s,2,E⟩=Q (I O c.la)/\w.cell? ⟨s,3,E⟩=Q (I O c.wi)/\w.cell? ⟨s,4,E⟩=Q (I O c.ke)/\w.cell? ⟨s,5,E⟩=Q (I O c.qu)/\w.cell? ⟨s,6,E⟩=Q tv/\w.cell? ⟨s,7,E⟩=Q (.map (Q lb))/\w.cell? ⟨s,8,E⟩=Q (.map (Q gb)):=by
 refine⟨?_,?_,?_,?_,?_,?_,?_,?_,?_⟩<;>rw[xd h.head]<;>rfl
def vy(s:Nat)(tv:z9)(lb gb:Nat)(k:Nat):Prop:=k=s\/tv.ownBlock=Q k\/k=lb\/k=gb
section
variable {w:R} {s:Nat} {c:Cf} {tv:z9} {lb gb:Nat} {Gl:List (Sg×Unit)} {L:LV}
theorem xl.lt(h:xl w s c tv lb gb Gl L):s<w.1.size:=zb h.head
theorem xl.kept{f:Nat->Prop}{w':R}(h:xl w s c tv lb gb Gl L)(a:zk f w w')(hn:∀k,vy s tv lb gb k->¬f k):xl w' s c tv lb gb Gl L:=
 ⟨a.heap h.head (hn s (.inl rfl)),zg h.trow a (fun k b=>hn k (.inr (.inl b))),h.live.kept a (hn lb (.inr (.inr (.inl rfl)))),h.gone.kept a (hn gb (.inr (.inr (.inr rfl)))),h.apart⟩
theorem xl.later{w':R}(h:xl w s c tv lb gb Gl L)(a:G w.1.size w w'):xl w' s c tv lb gb Gl L:=
 h.kept (f:=fun _=>False) (zk.of_below a) (fun _ _ b=>b)
theorem xl.cells(h:xl w s c tv lb gb Gl L):w.cell? ⟨s,0,E⟩=Q (I O c.s)/\w.cell? ⟨s,1,E⟩=Q (I O c.le)/\w.cell? ⟨s,2,E⟩=Q (I O c.la)/\w.cell? ⟨s,3,E⟩=Q (I O c.wi)/\w.cell? ⟨s,4,E⟩=Q (I O c.ke)/\w.cell? ⟨s,5,E⟩=Q (I O c.qu)/\w.cell? ⟨s,6,E⟩=Q tv/\w.cell? ⟨s,7,E⟩=Q (.map (Q lb))/\w.cell? ⟨s,8,E⟩=Q (.map (Q gb)):=by
 refine⟨?_,?_,?_,?_,?_,?_,?_,?_,?_⟩<;>rw[xd h.head]<;>rfl
end
theorem zjn(x:SX)(w:R):Calls prog 89 #[.agg #[I O x.1.t,I O x.1.se,I O x.1.wn,I O x.2.st,I O x.2.cl.cnt,I O x.2.cl.sum,I za x.2.cl.mn,I za x.2.cl.mx]] w fun e w'=>e=.returned (I O (yj x.2))/\G w.1.size w w':=by
 by_cases h:x.2.st=1
 ·have a:(x.2.st==1)=true:=by simp[h]
  rw[show yj x.2=x.2.cl.cnt from by simp[yj,h]]
  clear h
  go_enter func89,ntmps89
  go_wp2_with fail
  go_ret
  exact⟨rfl,(T _ _).alloc (U _) _⟩
 ·have a:(x.2.st==1)=false:=by simp[h]
  rw[show yj x.2=2 from by simp[yj,h]]
  clear h
  go_enter func89,ntmps89
  go_wp2_with fail
  go_ret
  exact⟨rfl,(T _ _).alloc (U _) _⟩
theorem zaC(x:SX)(a:Nat)(k:Int)(w:R)(b:w.cell? ⟨a,0,E⟩=Q (I O k))(c:a<w.1.size):Calls prog 91 #[.agg #[I O x.1.t,I O x.1.se,I O x.1.wn,I O x.2.st,I O x.2.cl.cnt,I O x.2.cl.sum,I za x.2.cl.mn,I za x.2.cl.mx],.pointer (Q ⟨a,0,E⟩)] w fun e w'=>e=.returned (.bool (x.2.st==k))/\G w.1.size w w':=by
 go_enter func91,ntmps91
 go_wp2_with fail
 go_ret
 exact⟨rfl,(T _ _).alloc (U _) _⟩
theorem zfU{L:LV}{ps:List SX}(f:SV->Int)(h:ps.Perm L)(a:xR (xI (L.map (fun p=>f p.2)))):kW (ps.map (fun x:SX=>f x.2))=xI (L.map (fun p=>f p.2)):=by
 have e:xI (ps.map (fun x:SX=>f x.2))=xI (L.map (fun p=>f p.2)):=Yg (h.map _)
 rw[<-e];apply kh;rw[e];exact a
theorem zcm{L:LV}{ps:List SX}(k:Int)(h:ps.Perm L):((ps.filter (fun x:SX=>x.2.st==k)).length:Int)=xy L k:=by
 unfold xy
 have e:xI (L.map (fun p=>Yu k p.2))=xI (ps.map (fun p=>Yu k p.2)):=(Yg (h.map _)).symm
 rw[e]
 induction ps generalizing L with
 |nil=>rfl
 |cons p ps c=>
  have a:=c (List.Perm.refl ps) rfl
  simp only[List.map_cons,List.filter_cons,xI]
  unfold Yu at*
  by_cases b:p.2.st=k
  ·rw[if_pos (by simpa using b),if_pos b,List.length_cons,<-a];omega
  ·rw[if_neg (by simpa using b),if_neg b,<-a];omega
theorem ZI{w:R}{s:Nat}{c:Cf}{tv:z9}{lb gb:Nat}{Gl:List (Sg×Unit)}{L:LV}(h:xl w s c tv lb gb Gl L)(d:xR (zU L)):
  Calls prog 43 #[.pointer (Q ⟨s,0,E⟩)] w fun e w'=>e=.returned (I O (zU L))/\G w.1.size w w':=by
 have l:=h.lt
 obtain⟨-,-,-,-,-,-,-,n,-⟩:=h.cells
 have a:∀o,G w.1.size w (w.alloc o):=fun o=>(T _ _).alloc (U _) _
 have j:=zd (KK lb w)
 have i:=zd (zhp 150 #[.pointer (Q ⟨w.1.size,0,E⟩)] zad (fun x:SX=>yj x.2) (w.alloc (.cells #[.map (Q lb)] 152)) (U _)
  (fun x W p=>zjn x W)
  (zeh (ex:=fun _=>False) w.1.size lb L _ (fun e=>e) (by simp) (by rw[xd (zr _ _)];rfl) (xO.1 (h.live.later (a _)))))
 have g:=zd d
 clear h d
 go_enter func43,ntmps43
 go_wp2_with fail
 refine(ud j).mono ?_
 rintro e m ⟨rfl,rfl⟩
 go_wp2_with fail
 refine(ud i).mono ?_
 rintro e m ⟨xs,k,rfl,b⟩
 have f:=zfU yj k (ud g)
 rw[f]
 clear f
 go_wp2_with fail
 go_ret
 exact⟨rfl,(a _).trans (b.mono (a _).size)⟩
theorem scen:∀args w,(callFunc 91 args).run prog w=.ok (.enter 91 args) w:=enters_of func91 (by kernel_rfl) rfl
theorem Xi{w:R}{s:Nat}{c:Cf}{tv:z9}{lb gb:Nat}{Gl:List (Sg×Unit)}{L:LV}(h:xl w s c tv lb gb Gl L)(k:Int)(z:(k==4)=false)(v:L.length<=100000):
  Calls prog 44 #[.pointer (Q ⟨s,0,E⟩),I O k] w fun e w'=>e=.returned (I O (xy L k))/\G w.1.size w w':=by
 have j:=h.lt
 obtain⟨-,-,-,-,-,-,-,t,-⟩:=h.cells
 have f:∀o,G w.1.size w (w.alloc o):=fun o=>(T _ _).alloc (U _) _
 obtain⟨d,m,a,n⟩:=box2 w (.cells #[I O k] 97) (.cells #[.map (Q lb)] 152)
 have r:=zd (KK lb (w.alloc (.cells #[I O k] 97)))
 have q:=zd (zih 150 #[.pointer (Q ⟨w.1.size+1,0,E⟩)] zad 91 #[] #[.pointer (Q ⟨w.1.size,0,E⟩)] scen (fun x:SX=>x.2.st==k) _
  (fun x W l=>zaC x w.1.size k W (by rw[xd ((l.block _ (zb d)).trans d)];rfl) (M (zb d) l.size))
  (zeh (ex:=fun _=>False) (w.1.size+1) lb L _ (fun e=>e) (by rw[n];omega) (by rw[xd m];rfl) (xO.1 (h.live.later a))) (fun xs i=>by rw[i.length_eq];omega))
 have b:=zd a
 have u:=((f (.cells #[I O k] 97)).cell (p:=⟨s,7,E⟩) j).trans t
 clear h v d m a n
 go_enter func44,ntmps44
 go_wp2_with fail
 refine(ud r).mono ?_
 rintro e y ⟨rfl,rfl⟩
 go_wp2_with fail
 refine(ud q).mono ?_
 rintro e y ⟨xs,i,rfl,g⟩
 rw[zcm k i]
 go_wp2_with fail
 go_ret
 exact⟨rfl,(ud b).trans (g.mono (ud b).size)⟩
theorem zeP{w:R}{s:Nat}{c:Cf}{tv:z9}{lb gb:Nat}{Gl:List (Sg×Unit)}{L:LV}(h:xl w s c tv lb gb Gl L):
  Calls prog 44 #[.pointer (Q ⟨s,0,E⟩),I O 4] w fun e w'=>e=.returned (I O Gl.length)/\G w.1.size w w':=by
 have d:=h.lt
 obtain⟨-,-,-,-,-,-,-,-,f⟩:=h.cells
 have a:∀o,G w.1.size w (w.alloc o):=fun o=>(T _ _).alloc (U _) _
 have b:(Builtin.len_ #[153] 3 #[.map (Q gb)]).run prog (w.alloc (.cells #[I O 4] 97))=.ok (I O Gl.length) (w.alloc (.cells #[I O 4] 97)):=zhj Z3 (h.gone.later (a _)) _
 clear h
 go_enter func44,ntmps44
 go_wp2_with fail
 go_ret
 exact⟨rfl,a _⟩
theorem YV(c:Cf)(a:Option Addr)(cap:Nat)(w:R):Calls prog 179 #[.agg #[I O c.s,I O c.le,I O c.la,I O c.wi,I O c.ke,I O c.qu,.slice a c.n cap]] w fun e w'=>e=.returned (I O c.n)/\G w.1.size w w':=by
 go_enter func179,ntmps179
 go_wp2_with fail
 go_ret
 exact⟨rfl,(T _ _).alloc (U _) _⟩
theorem Q5(c:Cf)(a:Option Addr)(cap:Nat)(w:R):Calls prog 61 #[.agg #[I O c.s,I O c.le,I O c.la,I O c.wi,I O c.ke,I O c.qu,.slice a c.n cap]] w fun e w'=>e=.returned (I O c.la)/\G w.1.size w w':=by
 go_enter func61,ntmps61
 go_wp2_with fail
 go_ret
 exact⟨rfl,(T _ _).alloc (U _) _⟩
theorem Xg(c:Cf)(a:Option Addr)(cap:Nat)(w:R):Calls prog 63 #[.agg #[I O c.s,I O c.le,I O c.la,I O c.wi,I O c.ke,I O c.qu,.slice a c.n cap]] w fun e w'=>e=.returned (I O c.qu)/\G w.1.size w w':=by
 go_enter func63,ntmps63
 go_wp2_with fail
 go_ret
 exact⟨rfl,(T _ _).alloc (U _) _⟩
theorem zak(c:Cf)(l:c.ok)(a:Option Addr)(cap:Nat)(t tm:Int)(d: -1<=t)(f:t<c.n)(j:0<=tm/\tm<=100000)(w:R)(k:TS w a c.n c.F c.W c.K):Calls prog 184 #[.agg #[I O c.s,I O c.le,I O c.la,I O c.wi,I O c.ke,I O c.qu,.slice a c.n cap],I O t,I O tm] w fun e w'=>e=.returned (I O (tm/c.wh t))/\G w.1.size w w':=by
 have b:∀o,G w.1.size w (w.alloc o):=fun o=>(T _ _).alloc (U _) _
 obtain⟨r,u⟩:=l.wh d f
 obtain⟨p,q⟩:=j
 have i:=l.n4
 have m:Hid (zY c.wi c.W t=c.wh t):=rfl
 have g:=fun o=>zd (vs c.s c.le c.la c.wi c.ke c.qu a c.n cap c.F c.W c.K t d f i (w.alloc o) (k.below (b o)))
 go_enter func184,ntmps184
 go_wp2_with fail
 refine(ud (g _)).mono ?_
 rintro e v ⟨rfl,h⟩
 rw[ud m]
 go_wp2_with fail
 go_ret
 exact⟨rfl,(b _).trans (h.mono (b _).size)⟩
theorem zby(c:Cf)(q:c.ok)(a:Option Addr)(cap:Nat)(t wn:Int)(f: -1<=t)(g:t<c.n)(p:0<=wn/\wn<=100000)(w:R)(l:TS w a c.n c.F c.W c.K):Calls prog 180 #[.agg #[I O c.s,I O c.le,I O c.la,I O c.wi,I O c.ke,I O c.qu,.slice a c.n cap],I O t,I O wn] w fun e w'=>e=.returned (I O ((wn+1)*c.wh t))/\G w.1.size w w':=by
 have b:∀o,G w.1.size w (w.alloc o):=fun o=>(T _ _).alloc (U _) _
 obtain⟨z,m⟩:=q.wh f g
 obtain⟨x,y⟩:=p
 have k:=q.n4
 have r:Hid (zY c.wi c.W t=c.wh t):=rfl
 have i:=fun o=>zd (vs c.s c.le c.la c.wi c.ke c.qu a c.n cap c.F c.W c.K t f g k (w.alloc o) (l.below (b o)))
 have d:0<=(wn+1)*c.wh t/\(wn+1)*c.wh t<=1000000000:=by
  constructor
  ·exact Int.mul_nonneg (by omega) (by omega)
  ·have:=Int.mul_le_mul (show wn+1<=100001 by omega) m (by omega) (by omega);omega
 obtain⟨u,v⟩:=d
 have h:wrap64 ((wn+1)*c.wh t)=(wn+1)*c.wh t:=by unfold wrap64;omega
 go_enter func180,ntmps180
 go_wp2_with fail
 refine(ud (i _)).mono ?_
 rintro e A ⟨rfl,j⟩
 rw[ud r]
 go_wp2_with fail
 go_ret
 exact⟨by first|rfl|rw[h],(b _).trans (j.mono (b _).size)⟩
theorem zbz(c:Cf)(f:c.ok)(a:Option Addr)(cap:Nat)(t:Int)(w:R):Calls prog 116 #[.agg #[I O c.s,I O c.le,I O c.la,I O c.wi,I O c.ke,I O c.qu,.slice a c.n cap],I O t] w fun e w'=>e=.returned (.bool (inB t (-1) ((c.n:Int)-1)))/\G w.1.size w w':=by
 have b:∀o,G w.1.size w (w.alloc o):=fun o=>(T _ _).alloc (U _) _
 have i:=f.n4
 have h:=f.n1
 have g:=fun o=>zd (YV c a cap (w.alloc o))
 go_enter func116,ntmps116
 go_wp2_with fail
 refine(ud (g _)).mono ?_
 rintro e j ⟨rfl,d⟩
 go_wp2_with(go_at_call 92;refine(xB _ _ _ _).mono ?_;rintro e k ⟨rfl,rfl⟩)
 go_ret
 exact⟨rfl,(b _).trans (d.mono (b _).size)⟩
theorem zbF{w:R}{s:Nat}{c:Cf}{tv:z9}{lb gb:Nat}(h:kj w s c tv lb gb)(z:c.ok)(t se tm:Int)(l: -1<=t)(m:t<c.n)(q:0<=tm/\tm<=100000):
  Calls prog 122 #[.pointer (Q ⟨s,0,E⟩),I O t,I O se,I O tm] w fun e w'=>e=.returned (.agg #[I O t,I O se,I O (tm/c.wh t)])/\G w.1.size w w':=by
 obtain⟨a,cap,rfl⟩:=zm h.trow
 have B:=h.lt
 have b:∀o,G w.1.size w (w.alloc o):=fun o=>(T _ _).alloc (U _) _
 have f:=TS.of_owns h.trow
 obtain⟨C,D,F,H,J,K,L,-,-⟩:=h.cells
 have i:=fun o=>zd (zak c z a cap t tm l m q (w.alloc o) (f.below (b o)))
 have u:=zd (zr w (.cells #[I O 0,I O 0,I O 0] 146))
 have x:=zd (zG w (.cells #[I O 0,I O 0,I O 0] 146))
 clear h f
 go_enter func122,ntmps122
 go_wp2_with fail
 refine(ud (i _)).mono ?_
 rintro e r ⟨rfl,d⟩
 have g:=(d.block w.1.size (by rw[ud x];omega)).trans (ud u)
 obtain⟨N,P,S,-⟩:=zc g
 have V:=fun j=>zH g j
 have y:=zd g
 clear g
 go_wp2_with fail
 have A:=set3 (ud y) (I O t) (I O se) (I O (tm/c.wh t))
 have k:G w.1.size r (((r.setCell ⟨w.1.size,0,E⟩ (I O t)).setCell ⟨w.1.size,1,E⟩ (I O se)).setCell ⟨w.1.size,2,E⟩ (I O (tm/c.wh t))):=(((T _ _).setCell (p:=⟨w.1.size,0,E⟩) (U _) _).setCell (p:=⟨w.1.size,1,E⟩) (U _) _).setCell (p:=⟨w.1.size,2,E⟩) (U _) _
 refine bodyPost_ret (v:=.agg #[I O t,I O se,I O (tm/c.wh t)]) (results_cell_row results122 _ _ w.1.size _ _ _ _ rfl A underlying146 rfl (by kernel_rfl)) rfl ?_
 exact⟨rfl,(b _).trans ((d.mono (b _).size).trans k)⟩
theorem zcy(c:Cf)(l:c.ok)(a:Option Addr)(cap:Nat)(t:Int)(r: -1<=t)(u:t<c.n)(w:R)(g:TS w a c.n c.F c.W c.K):Calls prog 234 #[.agg #[I O c.s,I O c.le,I O c.la,I O c.wi,I O c.ke,I O c.qu,.slice a c.n cap],I O t] w fun e w'=>e=.returned (I O (c.keep t))/\G w.1.size w w':=by
 have q:=l.n4
 have d:∀o,G w.1.size w (w.alloc o):=fun o=>(T _ _).alloc (U _) _
 by_cases h:t= -1
 ·subst h
  rw[show c.keep (-1)=c.ke from rfl]
  go_enter func234,ntmps234
  go_wp2_with fail
  go_ret
  exact⟨rfl,d _⟩
 ·obtain⟨k,rfl⟩:∃k:Nat,t=k:=⟨t.toNat,by omega⟩
  have m:k<c.n:=by omega
  obtain⟨b,v,rfl,j,f⟩:=g.below (d (.cells #[I O c.s,I O c.le,I O c.la,I O c.wi,I O c.ke,I O c.qu,.slice a c.n cap] 27)) (by omega)
  obtain⟨-,-,y⟩:=f k m
  have p:(k:Int)<c.n:=by omega
  have x:((k:Int)== -1)=false:=by simp
  have i:Hid (c.keep (k:Int)=c.K k):=by show c.keep (k:Int)=c.K k;unfold Cf.keep;rw[if_neg (by omega)];simp
  clear f g
  rw[ud i]
  go_enter func234,ntmps234
  go_wp2_with fail
  go_ret
  exact⟨rfl,d _⟩
theorem QH(c:Cf)(p:c.ok)(a:Option Addr)(cap:Nat)(t wn now:Int)(x: -1<=t)(y:t<c.n)(d:0<=wn/\wn<=100000)(r:0<=now/\now<=100000)(w:R)(f:TS w a c.n c.F c.W c.K):Calls prog 117 #[.agg #[I O c.s,I O c.le,I O c.la,I O c.wi,I O c.ke,I O c.qu,.slice a c.n cap],I O t,I O wn,I O now] w fun e w'=>e=.returned (.bool (decide ((wn+1)*c.wh t<=now-c.la)))/\G w.1.size w w':=by
 have l:∀o,G w.1.size w (w.alloc o):=fun o=>(T _ _).alloc (U _) _
 obtain⟨a0,a1⟩:=p.la
 have HC:=zd p
 have z:=d
 obtain⟨n1,n2⟩:=r
 have q:0<=(wn+1)*c.wh t/\(wn+1)*c.wh t<=1000000000:=by
  obtain⟨a2,H⟩:=p.wh x y
  constructor
  ·exact Int.mul_nonneg (by omega) (by omega)
  ·have:=Int.mul_le_mul (show wn+1<=100001 by omega) H (by omega) (by omega);omega
 have V:=zd d
 obtain⟨v,hv⟩:∃v,(wn+1)*c.wh t=v:=⟨_,rfl⟩
 have A:∀W,G w.1.size w W->Hid (Calls prog 180 #[.agg #[I O c.s,I O c.le,I O c.la,I O c.wi,I O c.ke,I O c.qu,.slice a c.n cap],I O t,I O wn] W fun e w'=>e=.returned (I O v)/\G W.1.size W w'):=fun W Z=>by have h:=zby c p a cap t wn x y d W (f.below Z);rw[hv]at h;exact h
 rw[hv]at q ⊢
 clear p d z hv
 have m:=l (.cells #[I O c.s,I O c.le,I O c.la,I O c.wi,I O c.ke,I O c.qu,.slice a c.n cap] 89)
 have J:=zr w (.cells #[I O c.s,I O c.le,I O c.la,I O c.wi,I O c.ke,I O c.qu,.slice a c.n cap] 89)
 have L:=zG w (.cells #[I O c.s,I O c.le,I O c.la,I O c.wi,I O c.ke,I O c.qu,.slice a c.n cap] 89)
 obtain⟨x0,x1,x2,x3,x4,x5,x6,-⟩:=zc J
 have g:=zd m
 have S:=zd f
 have P:=zd L
 clear J L m f l
 go_enter func117,ntmps117
 go_wp2_with fail
 have q4:w.1.size<w.1.size+1:=by omega
 generalize(w.alloc (.cells #[I O c.s,I O c.le,I O c.la,I O c.wi,I O c.ke,I O c.qu,.slice a c.n cap] 89))=X at*
 generalize Y:w.1.size+1=N at*
 have D:Nonempty (zj N X):=zj.some _ _
 have C:=fun(u:zj N X) b o h=>u.cell b o h
 have k:N<=X.1.size:=by rw[ud P];exact U _
 have j:=zd k
 have i:Hid (w.1.size<=N):=by show w.1.size<=N;omega
 clear k Y
 refine ze N (by kernel_rfl) (by kernel_rfl) ?_
 repeat(go_big_quiet_step (first
  |(go_at_call 180;exact Calls.later (ud j) (ud (A _ ((ud g).trans (Below.mono (Subtype.property _) (ud i))))))
  |(go_at_call 61;exact Calls.later (ud j) (Q5 c a cap _))))
 refine wpQuiet_nil ?_
 rintro⟨w1,B⟩
 clear C D
 dsimp only
 go_wp2_with fail
 go_ret
 exact⟨rfl,(ud g).trans (B.mono (ud i))⟩
theorem zev(c:Cf)(r:c.ok)(a:Option Addr)(cap:Nat)(t wn:Int)(d: -1<=t)(f:t<c.n)(k:0<=wn/\wn<=100000)(w:R)(j:TS w a c.n c.F c.W c.K):Calls prog 177 #[.agg #[I O c.s,I O c.le,I O c.la,I O c.wi,I O c.ke,I O c.qu,.slice a c.n cap],I O t,I O wn] w fun e w'=>e=.returned (I O ((wn+1)*c.wh t+c.keep t))/\G w.1.size w w':=by
 have p:∀o,G w.1.size w (w.alloc o):=fun o=>(T _ _).alloc (U _) _
 have P:=zd r
 obtain⟨k1,k2⟩:=r.keeps d f
 have x:0<=(wn+1)*c.wh t/\(wn+1)*c.wh t<=1000000000:=by
  obtain⟨Z,D⟩:=r.wh d f
  constructor
  ·exact Int.mul_nonneg (by omega) (by omega)
  ·have:=Int.mul_le_mul (show wn+1<=100001 by omega) D (by omega) (by omega);omega
 have S:=zd k
 obtain⟨v,hv⟩:∃v,(wn+1)*c.wh t=v:=⟨_,rfl⟩
 have y:∀W,G w.1.size w W->Hid (Calls prog 180 #[.agg #[I O c.s,I O c.le,I O c.la,I O c.wi,I O c.ke,I O c.qu,.slice a c.n cap],I O t,I O wn] W fun e w'=>e=.returned (I O v)/\G W.1.size W w'):=fun W Y=>by have h:=zby c r a cap t wn d f k W (j.below Y);rw[hv]at h;exact h
 rw[hv]at x ⊢
 clear r k hv
 have q:=p (.cells #[I O c.s,I O c.le,I O c.la,I O c.wi,I O c.ke,I O c.qu,.slice a c.n cap] 89)
 have H:=zr w (.cells #[I O c.s,I O c.le,I O c.la,I O c.wi,I O c.ke,I O c.qu,.slice a c.n cap] 89)
 have J:=zG w (.cells #[I O c.s,I O c.le,I O c.la,I O c.wi,I O c.ke,I O c.qu,.slice a c.n cap] 89)
 obtain⟨x0,x1,x2,x3,x4,x5,x6,-⟩:=zc H
 have g:=zd q
 have z:=zd j
 have L:=zd J
 clear H J q j p
 go_enter func177,ntmps177
 go_wp2_with fail
 have q4:w.1.size<w.1.size+1:=by omega
 generalize(w.alloc (.cells #[I O c.s,I O c.le,I O c.la,I O c.wi,I O c.ke,I O c.qu,.slice a c.n cap] 89))=X at*
 generalize V:w.1.size+1=N at*
 have C:Nonempty (zj N X):=zj.some _ _
 have B:=fun(u:zj N X) b o h=>u.cell b o h
 have m:N<=X.1.size:=by rw[ud L];exact U _
 have l:=zd m
 have i:Hid (w.1.size<=N):=by show w.1.size<=N;omega
 clear m V
 refine ze N (by kernel_rfl) (by kernel_rfl) ?_
 repeat(go_big_quiet_step (first
  |(go_at_call 180;exact Calls.later (ud l) (ud (y _ ((ud g).trans (Below.mono (Subtype.property _) (ud i))))))
  |(go_at_call 234;exact Calls.later (ud l) (zcy c (ud P) a cap t d f _ ((ud z).below ((ud g).trans (Below.mono (Subtype.property _) (ud i))))))))
 refine wpQuiet_nil ?_
 rintro⟨w1,A⟩
 clear B C
 dsimp only
 go_wp2_with fail
 go_ret
 exact⟨rfl,(ud g).trans (A.mono (ud i))⟩
theorem vZ{P:Program}{fn:Func}{p u:Tmp}{b:TypeId}(h:fn.results=#[.tmp u,.cell p b])(tmps:Array z9)(w:R)(g:Nat)(t:TypeId)(cs:Array z9)(c:Nat×Nat)(d:TypeDesc)(x:z9)
  (m:tmps.getD u undef=x) (k:tmps.getD p undef=.pointer (Q ⟨g,0,E⟩)) (i:w.1[g]?=Q (.cells cs t c))
  (l:P.underlying b=Q d) (f:(match d with| .struct _| .array _ _=>true|_=>false)=true) (j:(P.info? b).map (·.size)=Q cs.size):
  (results fn tmps).run P w=.ok (.tuple #[x,.agg cs]) w:=by
 have e:(results fn tmps).run P w=((asAddr (tmps.getD p undef)).run P w).andThen fun a n=>((loadVar b a).run P n).andThen fun v o=> .ok (.tuple #[tmps.getD u undef,v]) o:=by
  simp only[results,h]
  simp[Sem.run_bind,Result.andThen]
 rw[e,k,m]
 simp[asAddr,run_loadVar_row w g t b cs c d i l f j,Result.andThen]
theorem ziX{w:R}{g:Nat}{a b c d:z9}{t:TypeId}{e:Nat×Nat}(h:w.1[g]?=Q (.cells #[a,b,c,d] t e))(x y z u:z9):(((((w.setCell ⟨g,0,E⟩ x).setCell ⟨g,1,E⟩ y).setCell ⟨g,2,E⟩ z).setCell ⟨g,3,E⟩ u).drew).1[g]?=Q (.cells #[x,y,z,u] t e):=by
 have:=xi (i:=3) (xi (i:=2) (xi (i:=1) (xi (i:=0) h x) y) z) u
 exact this
theorem JS{B:Nat}{w:R}{g:Nat}(h:B<=g)(x y z u:z9):G B w (((((w.setCell ⟨g,0,E⟩ x).setCell ⟨g,1,E⟩ y).setCell ⟨g,2,E⟩ z).setCell ⟨g,3,E⟩ u).drew):=
 (((((T _ _).setCell (p:=⟨g,0,E⟩) h _).setCell (p:=⟨g,1,E⟩) h _).setCell (p:=⟨g,2,E⟩) h _).setCell (p:=⟨g,3,E⟩) h _).drew
theorem below4{B:Nat}{w:R}{g:Nat}(h:B<=g)(x y z u:z9):G B w ((((w.setCell ⟨g,0,E⟩ x).setCell ⟨g,1,E⟩ y).setCell ⟨g,2,E⟩ z).setCell ⟨g,3,E⟩ u):=
 ((((T _ _).setCell (p:=⟨g,0,E⟩) h _).setCell (p:=⟨g,1,E⟩) h _).setCell (p:=⟨g,2,E⟩) h _).setCell (p:=⟨g,3,E⟩) h _
def stX(L:LV)(s:Sg):SX:=match ku L s with
 |some v=>(s,v)
 |none=>zX
theorem zfr(L:LV)(s:Sg):(stX L s).2=stL L s:=by unfold stX stL;cases ku L s<;>rfl
theorem ziD(L:LV)(s:Sg):zaj false (yX zX) L s=yX (stX L s):=by
 unfold zaj stX;cases ku L s<;>rfl
theorem VR{w X:R}{gb:Nat}{Gl:List (Sg×Unit)}{s:Sg}(hn:zS Gl s=E)(b:xj vf w gb Gl)(a:G w.1.size w X)(c:s.wf):(Instr.lookup 153 (.map (Q gb)) (.agg #[I O s.t,I O s.se,I O s.wn]) true).run prog X=.ok (.tuple #[.agg #[],.bool false]) X:=by
 have h:=vl Z3 true (b.later a) c
 rw[hn]at h
 exact h
theorem VT{w X:R}{gb:Nat}{Gl:List (Sg×Unit)}{s:Sg}(hn:zS Gl s=Q ())(b:xj vf w gb Gl)(a:G w.1.size w X)(c:s.wf):(Instr.lookup 153 (.map (Q gb)) (.agg #[I O s.t,I O s.se,I O s.wn]) true).run prog X=.ok (.tuple #[.agg #[],.bool true]) X:=by
 have h:=vl Z3 true (b.later a) c
 rw[hn]at h
 exact h
theorem YU{w X:R}{lb:Nat}{L:LV}{s:Sg}{v:SX}(hv:v=stX L s)(b:qQ w lb L)(a:G w.1.size w X)(c:s.wf):(Instr.lookup 152 (.map (Q lb)) (.agg #[I O s.t,I O s.se,I O s.wn]) false).run prog X=.ok (.agg #[I O v.1.t,I O v.1.se,I O v.1.wn,I O v.2.st,I O v.2.cl.cnt,I O v.2.cl.sum,I za v.2.cl.mn,I za v.2.cl.mx]) X:=by
 subst hv
 have:=zbO false (b.later a) c
 rw[ziD]at this
 exact this
theorem zcU{w:R}{b:Nat}{c:Cf}{tv:z9}{lb gb:Nat}{Gl:List (Sg×Unit)}{L:LV}(h:xl w b c tv lb gb Gl L)(s:Sg)(hs:s.wf)(y:zS Gl s=E):
  Calls prog 118 #[.pointer (Q ⟨b,0,E⟩),.agg #[I O s.t,I O s.se,I O s.wn]] w fun e w'=>e=.returned (.tuple #[I O (stL L s).st,clV (stL L s).cl])/\G w.1.size w w':=by
 obtain⟨v,hv⟩:∃v,v=stX L s:=⟨_,rfl⟩
 rw[<-zfr,<-hv]
 have q:=zd hv
 clear hv
 have z:=h.lt
 obtain⟨-,-,-,-,-,-,-,S,V⟩:=h.cells
 have H:=zd h
 obtain⟨P,y1,a,yz⟩:=box2 w (.cells #[I O s.t,I O s.se,I O s.wn] 146) (.cells #[I O 0,I O 0,I za 0,I za 0] 115)
 have k:=zd hs
 have g:=zd y
 clear h hs y
 go_enter func118,ntmps118
 go_wp2_with fail
 generalize((w.alloc (.cells #[I O s.t,I O s.se,I O s.wn] 146)).alloc (.cells #[I O 0,I O 0,I za 0,I za 0] 115))=X at*
 obtain⟨k0,k1,k2,-⟩:=zc P
 have x7:=(a.cell (p:=⟨b,7,E⟩) z).trans S
 have x8:=(a.cell (p:=⟨b,8,E⟩) z).trans V
 have D:=VR (ud g) (X:=X) (ud H).gone a (ud k)
 have F:=VR (ud g) (X:=X.drew) (ud H).gone a.drew (ud k)
 have J:=fun o=>VR (ud g) (X:=X.alloc o) (ud H).gone (a.alloc a.size o) (ud k)
 have K:=fun o=>VR (ud g) (X:=(X.alloc o).drew) (ud H).gone (a.alloc a.size o).drew (ud k)
 have N:=fun o=>VR (ud g) (X:=X.drew.alloc o) (ud H).gone (a.drew.alloc a.drew.size o) (ud k)
 have Y1:=zd y1
 have C:=zd yz
 have n:=zd a
 have Y0:=zd P
 clear P y1 yz a S V
 have x:b<X.1.size:=by have:=ud C;omega
 have l:w.1.size<X.1.size:=by have:=ud C;omega
 have i:w.1.size+1<X.1.size:=by have:=ud C;omega
 go_region
 have f:G X.1.size X ((X.alloc (.cells #[] 257)).drew):=((T _ _).alloc (U _) _).drew
 have d:G w.1.size w ((X.alloc (.cells #[] 257)).drew):=(ud n).trans (f.mono (ud n).size)
 generalize((X.alloc (.cells #[] 257)).drew)=Y at*
 have m0:=(f.cell (p:=⟨w.1.size,0,E⟩) l).trans k0
 have m1:=(f.cell (p:=⟨w.1.size,1,E⟩) l).trans k1
 have m2:=(f.cell (p:=⟨w.1.size,2,E⟩) l).trans k2
 have y7:=(f.cell (p:=⟨b,7,E⟩) x).trans x7
 have W:=(f.block (w.1.size+1) i).trans (ud Y1)
 clear D F J K N k0 k1 k2 x7 x8
 have a3:=f.size
 have x:b<Y.1.size:=by omega
 have l:w.1.size<Y.1.size:=by omega
 have i:w.1.size+1<Y.1.size:=by omega
 have D:=YU (hv:=ud q) (X:=Y) (ud H).live d (ud k)
 have F:=YU (hv:=ud q) (X:=Y.drew) (ud H).live d.drew (ud k)
 have J:=fun o=>YU (hv:=ud q) (X:=Y.alloc o) (ud H).live (d.alloc d.size o) (ud k)
 have K:=fun o=>YU (hv:=ud q) (X:=(Y.alloc o).drew) (ud H).live (d.alloc d.size o).drew (ud k)
 have N:=fun o=>YU (hv:=ud q) (X:=Y.drew.alloc o) (ud H).live (d.drew.alloc d.drew.size o) (ud k)
 have r:=zd d
 have E1:=zd W
 clear f d W
 go_wp2_with fail
 go_region
 have m:G Y.1.size Y ((Y.alloc (.cells #[I O v.1.t,I O v.1.se,I O v.1.wn,I O v.2.st,I O v.2.cl.cnt,I O v.2.cl.sum,I za v.2.cl.mn,I za v.2.cl.mx] 148)).drew):=((T _ _).alloc (U _) _).drew
 have u:((Y.alloc (.cells #[I O v.1.t,I O v.1.se,I O v.1.wn,I O v.2.st,I O v.2.cl.cnt,I O v.2.cl.sum,I za v.2.cl.mn,I za v.2.cl.mx] 148)).drew).1[Y.1.size]?=Q (.cells #[I O v.1.t,I O v.1.se,I O v.1.wn,I O v.2.st,I O v.2.cl.cnt,I O v.2.cl.sum,I za v.2.cl.mn,I za v.2.cl.mx] 148 (0,0)):=zr _ _
 generalize((Y.alloc (.cells #[I O v.1.t,I O v.1.se,I O v.1.wn,I O v.2.st,I O v.2.cl.cnt,I O v.2.cl.sum,I za v.2.cl.mn,I za v.2.cl.mx] 148)).drew)=Z at*
 obtain⟨z0,z1,z2,z3,z4,z5,z6,z7,-⟩:=zc u
 have A:=(m.block (w.1.size+1) i).trans (ud E1)
 obtain⟨r0,r1,r2,r3,-⟩:=zc A
 have rf:=fun j=>zH A j
 have a4:(w.1.size+1==Y.1.size)=false:=by simp;omega
 have a0:(Y.1.size==w.1.size+1)=false:=by simp;omega
 have a1:¬w.1.size+1=Y.1.size:=by omega
 have a2:¬Y.1.size=w.1.size+1:=by omega
 have EZ:=zd A
 have B:=zd m
 clear D F J K N m0 m1 m2 y7 u A m
 go_wp2_with fail
 go_region
 go_wp2_with fail
 have hf:=ziX (ud EZ) (I O v.2.cl.cnt) (I O v.2.cl.sum) (I za v.2.cl.mn) (I za v.2.cl.mx)
 refine bodyPost_ret (v:=.tuple #[I O v.2.st,.agg #[I O v.2.cl.cnt,I O v.2.cl.sum,I za v.2.cl.mn,I za v.2.cl.mx]]) (vZ results118 _ _ (w.1.size+1) _ _ _ _ _ rfl rfl hf underlying115 rfl (by kernel_rfl)) rfl ?_
 exact⟨rfl,((ud r).trans ((ud B).mono (ud r).size)).trans (JS (Nat.le_succ _) _ _ _ _)⟩
theorem zcT{w:R}{b:Nat}{c:Cf}{tv:z9}{lb gb:Nat}{Gl:List (Sg×Unit)}{L:LV}(h:xl w b c tv lb gb Gl L)(s:Sg)(B:s.wf)(m:zS Gl s=Q ()):
  Calls prog 118 #[.pointer (Q ⟨b,0,E⟩),.agg #[I O s.t,I O s.se,I O s.wn]] w fun e w'=>e=.returned (.tuple #[I O 4,clV qC])/\G w.1.size w w':=by
 have n:=h.lt
 obtain⟨-,-,-,-,-,-,-,z,A⟩:=h.cells
 have H:=zd h
 obtain⟨y,C,a,D⟩:=box2 w (.cells #[I O s.t,I O s.se,I O s.wn] 146) (.cells #[I O 0,I O 0,I za 0,I za 0] 115)
 have l:=zd B
 have d:=zd m
 clear h B m
 go_enter func118,ntmps118
 go_wp2_with fail
 generalize((w.alloc (.cells #[I O s.t,I O s.se,I O s.wn] 146)).alloc (.cells #[I O 0,I O 0,I za 0,I za 0] 115))=X at*
 obtain⟨k0,k1,k2,-⟩:=zc y
 have x7:=(a.cell (p:=⟨b,7,E⟩) n).trans z
 have x8:=(a.cell (p:=⟨b,8,E⟩) n).trans A
 have K:=VT (ud d) (X:=X) (ud H).gone a (ud l)
 have N:=VT (ud d) (X:=X.drew) (ud H).gone a.drew (ud l)
 have P:=fun o=>VT (ud d) (X:=X.alloc o) (ud H).gone (a.alloc a.size o) (ud l)
 have S:=fun o=>VT (ud d) (X:=(X.alloc o).drew) (ud H).gone (a.alloc a.size o).drew (ud l)
 have V:=fun o=>VT (ud d) (X:=X.drew.alloc o) (ud H).gone (a.drew.alloc a.drew.size o) (ud l)
 have J:=zd C
 have x:=zd D
 have k:=zd a
 have Y0:=zd y
 clear y C D a z A
 have Z:b<X.1.size:=by have:=ud x;omega
 have a0:w.1.size<X.1.size:=by have:=ud x;omega
 have g:w.1.size+1<X.1.size:=by have:=ud x;omega
 go_region
 have f:G X.1.size X ((X.alloc (.cells #[] 257)).drew):=((T _ _).alloc (U _) _).drew
 have q:G w.1.size w ((X.alloc (.cells #[] 257)).drew):=(ud k).trans (f.mono (ud k).size)
 generalize((X.alloc (.cells #[] 257)).drew)=Y at*
 have r:=(f.block (w.1.size+1) g).trans (ud J)
 clear K N P S V k0 k1 k2 x7 x8
 have W:=f.size
 have g:w.1.size+1<Y.1.size:=by omega
 obtain⟨r0,r1,r2,r3,-⟩:=zc r
 have rf:=fun j=>zH r j
 have u:=zd q
 have F:=zd r
 clear f q r
 go_wp2_with fail
 have hf:=xi (i:=3) (xi (i:=2) (xi (i:=1) (xi (i:=0) (ud F) (I O 0)) (I O 0)) (I za 0)) (I za 0)
 refine bodyPost_ret (v:=.tuple #[I O 4,.agg #[I O 0,I O 0,I za 0,I za 0]]) (vZ results118 _ _ (w.1.size+1) _ _ _ _ _ rfl rfl hf underlying115 rfl (by kernel_rfl)) rfl ?_
 exact⟨rfl,(ud u).trans (below4 (Nat.le_succ _) _ _ _ _)⟩
def stG(Gl:List (Sg×Unit))(L:LV)(s:Sg):SV:=match zS Gl s with
 |none=>stL L s
 |some _=>⟨4,qC⟩
theorem J1{w:R}{b:Nat}{c:Cf}{tv:z9}{lb gb:Nat}{Gl:List (Sg×Unit)}{L:LV}(h:xl w b c tv lb gb Gl L)(s:Sg)(d:s.wf):
  Calls prog 118 #[.pointer (Q ⟨b,0,E⟩),.agg #[I O s.t,I O s.se,I O s.wn]] w fun e w'=>e=.returned (.tuple #[I O (stG Gl L s).st,clV (stG Gl L s).cl])/\G w.1.size w w':=by
 unfold stG
 cases a:zS Gl s with
 |none=>exact zcU h s d a
 |some u=>exact zcT h s d a
theorem Xx{w:R}{b:Nat}{c:Cf}{tv:z9}{lb gb:Nat}{Gl:List (Sg×Unit)}{L:LV}(h:xl w b c tv lb gb Gl L)(s:Sg)(g:s.wf):
  Calls prog 121 #[.pointer (Q ⟨b,0,E⟩),.agg #[I O s.t,I O s.se,I O s.wn]] w fun e w'=>e=.returned (.bool ((stG Gl L s).st==0))/\G w.1.size w w':=by
 have a:∀o,G w.1.size w (w.alloc o):=fun o=>(T _ _).alloc (U _) _
 have f:=fun o=>zd (J1 (h.later (a o)) s g)
 unfold clV at f
 clear h g
 generalize stG Gl L s=v at*
 go_enter func121,ntmps121
 go_wp2_with fail
 refine(ud (f _)).mono ?_
 rintro e i ⟨rfl,d⟩
 go_wp2_with fail
 go_ret
 exact⟨rfl,((a _).trans (d.mono (a _).size)).alloc (zf (a _).size d.size) _⟩
theorem zjM(v:SX)(W:R):(Instr.field 148 (.agg #[I O v.1.t,I O v.1.se,I O v.1.wn,I O v.2.st,I O v.2.cl.cnt,I O v.2.cl.sum,I za v.2.cl.mn,I za v.2.cl.mx]) 1).run prog W=.ok (I O v.2.st) W:=by kernel_rfl
theorem jy{w:R}{b:Nat}{c:Cf}{tv:z9}{lb gb:Nat}{Gl:List (Sg×Unit)}{L:LV}(h:xl w b c tv lb gb Gl L)(s:Sg)(k:s.wf):
  Calls prog 175 #[.pointer (Q ⟨b,0,E⟩),.agg #[I O s.t,I O s.se,I O s.wn]] w fun e w'=>e=.returned (.bool ((stL L s).st==2))/\G w.1.size w w':=by
 obtain⟨v,hv⟩:∃v,v=stX L s:=⟨_,rfl⟩
 rw[<-zfr,<-hv]
 have i:=h.lt
 obtain⟨-,-,-,-,-,-,-,j,-⟩:=h.cells
 have g:∀o,G w.1.size w (w.alloc o):=fun o=>(T _ _).alloc (U _) _
 have a:=g (.cells #[I O s.t,I O s.se,I O s.wn] 146)
 have l:=zr w (.cells #[I O s.t,I O s.se,I O s.wn] 146)
 have r:=zG w (.cells #[I O s.t,I O s.se,I O s.wn] 146)
 have f:=fun X m=>YU (hv:=hv) (X:=X) h.live m k
 clear h k hv
 go_enter func175,ntmps175
 go_wp2_with fail
 generalize(w.alloc (.cells #[I O s.t,I O s.se,I O s.wn] 146))=X at*
 obtain⟨z,A,B,-⟩:=zc l
 have C:=(a.cell (p:=⟨b,7,E⟩) i).trans j
 have x:=f X a
 have y:=f X.drew a.drew
 have u:=zjM v
 have q:w.1.size<X.1.size:=by omega
 have n:b<X.1.size:=by omega
 have d:=zd a
 clear f l r a j
 go_region
 go_wp2_with fail
 go_ret
 exact⟨rfl,(ud d).drew⟩
attribute [local go_sem] Oper.semAt_some
def YB(c:Cf)(t st:Int)(k:Nat):List (Int×Int):=((List.range k).filter (fun i=>c.F i==t)).map (fun i:Nat=>((i:Int),st/c.W i))
theorem Vs(c:Cf)(t st:Int)(k:Nat):YB c t st (k+1)=if c.F k=t then YB c t st k++[((k:Int),st/c.W k)]else YB c t st k:=by
 unfold YB
 rw[List.range_succ,List.filter_append,List.map_append]
 by_cases h:c.F k=t<;>simp[h]
theorem zaZ(c:Cf)(t st:Int)(k:Nat):(YB c t st k).length<=k:=by
 unfold YB;rw[List.length_map];exact zf (List.length_filter_le _ _) (by simp)
abbrev WP:={p:Int×Int//xR p.1/\xR p.2}
noncomputable def YA (p:Int×Int):WP:=by classical exact if h:xR p.1/\xR p.2 then⟨p,h⟩else⟨(0,0),by unfold xR;simp⟩
theorem JB{p:Int×Int}(h:xR p.1/\xR p.2):(YA p).1=p:=by unfold YA;rw[dif_pos h]
theorem zdI{c:Cf}(b:c.ok){st:Int}(a:0<=st/\st<=1000000000){k:Nat}(d:k<c.n):xR (((k:Int),st/c.W k):Int×Int).1/\xR (((k:Int),st/c.W k):Int×Int).2:=by
 obtain⟨h,i⟩:=b.W k d
 have g:=b.n4
 have e:0<=st/c.W k:=Int.ediv_nonneg a.1 (by omega)
 have f:st/c.W k<=st:=Int.ediv_le_self _ a.1
 unfold xR;simp only;omega
structure AR(W:R)(q Bs:Nat)(c:Cf)(a:Option Addr)(cap:Nat)(t st:Int):Prop where
 b0:W.1[q]?=Q (.cells #[I O c.s,I O c.le,I O c.la,I O c.wi,I O c.ke,I O c.qu,.slice a c.n cap] 89 (0,0))
 b1:W.1[q+1]?=Q (.cells #[I O t] 3 (0,0))
 b2:W.1[Bs]?=Q (.cells #[I O st] 3 (0,0))
 ts:TS W a c.n c.F c.W c.K
theorem AR.later{W e:R}{q d:Nat}{c:Cf}{a:Option Addr}{cap:Nat}{t st:Int}(h:AR W q d c a cap t st)(b:G W.1.size W e):AR e q d c a cap t st:=
 ⟨(b.block _ (zb h.b0)).trans h.b0,(b.block _ (zb h.b1)).trans h.b1,(b.block _ (zb h.b2)).trans h.b2,h.ts.below b⟩
theorem YT(c:Cf)(z:c.ok)(a:Option Addr)(cap:Nat)(t wn:Int)(k: -1<=t)(l:t<c.n)(S:0<=wn/\wn<=100000)(w:R)(h:TS w a c.n c.F c.W c.K):
  Calls prog 236 #[.agg #[I O c.s,I O c.le,I O c.la,I O c.wi,I O c.ke,I O c.qu,.slice a c.n cap],I O t,I O wn] w fun e w'=>∃r,e=.returned (.func (.func 264) #[] #[.pointer (Q ⟨w.1.size,0,E⟩),.pointer (Q ⟨w.1.size+1,0,E⟩),.pointer (Q ⟨r,0,E⟩)])/\AR w' w.1.size r c a cap t (wn*c.wh t)/\w.1.size<=r/\G w.1.size w w':=by
 obtain⟨B,C,g,H⟩:=box2 w (.cells #[I O c.s,I O c.le,I O c.la,I O c.wi,I O c.ke,I O c.qu,.slice a c.n cap] 89) (.cells #[I O t] 3)
 obtain⟨b,m⟩:=z.wh k l
 have j:0<=wn*c.wh t/\wn*c.wh t<=1000000000:=by
  constructor
  ·exact Int.mul_nonneg (by omega) (by omega)
  ·have:=Int.mul_le_mul (show wn<=100000 by omega) m (by omega) (by omega);omega
 have A:=z.n4
 have d:=zd (vs c.s c.le c.la c.wi c.ke c.qu a c.n cap c.F c.W c.K t k l A _ (h.below g))
 rw[show zY c.wi c.W t=c.wh t from rfl]at d
 have y:=zd h
 clear h z
 obtain⟨v,hv⟩:∃v,c.wh t=v:=⟨_,rfl⟩
 rw[hv]at d j b m ⊢
 clear hv
 obtain⟨Y,-⟩:=zc C
 obtain⟨Z,x1,x2,x3,x4,x5,x6,-⟩:=zc B
 have J:=zd B
 have L:=zd C
 have N:=zd H
 have x:=zd g
 have D:wrap64 (wn*v)=wn*v:=by unfold wrap64;omega
 clear B C H g
 go_enter func236,ntmps236
 go_wp2_with fail
 generalize((w.alloc (.cells #[I O c.s,I O c.le,I O c.la,I O c.wi,I O c.ke,I O c.qu,.slice a c.n cap] 89)).alloc (.cells #[I O t] 3))=X at*
 refine(ud d).mono ?_
 rintro e p ⟨rfl,i⟩
 have u:=zd i
 clear i
 go_wp2_with fail
 go_ret
 have q:=ud u
 have V:X.1.size=w.1.size+2:=ud N
 have P:=q.size
 have b:G w.1.size w p:=(ud x).trans (q.mono (by omega))
 have f:G p.1.size p (p.alloc (.cells #[I O (wn*v)] 3)):=(T _ _).alloc (U _) _
 have o:=b.trans (f.mono b.size)
 refine⟨p.1.size,rfl,⟨(f.block _ (by omega)).trans ((q.block _ (by omega)).trans (ud J)),(f.block _ (by omega)).trans ((q.block _ (by omega)).trans (ud L)),zr _ _,(ud y).below o⟩,b.size,o⟩
theorem zcg(l q s:Nat)(c:Cf)(N:c.ok)(a:Option Addr)(cap:Nat)(t st:Int)(a2:0<=st/\st<=1000000000)(Kp:R->R->Prop)(C:∀A B,Kp A B->AR A q s c a cap t st->AR B q s c a cap t st)(D:∀A B,Kp A B->A.1.size<=B.1.size)(J Jx:List WP->R->Prop)
  (hY:∀g x V,J g V->g.length<c.n->YieldAt Fence.wide 5 prog l #[I O x.1.1,I O x.1.2] V fun e L=>(e=.returned (.bool true)/\J (g++[x]) L/\Kp V L)\/(e=.returned (.bool false)/\Jx (g++[x]) L/\Kp V L))
  (W:R) (hJ:OwnFrom W.1.size J) (hR:AR W q s c a cap t st) (h0:J [] W):
  CallsIn Fence.wide 6 prog 264 #[.func (.yield l) #[] #[],.pointer (Q ⟨q,0,E⟩),.pointer (Q ⟨q+1,0,E⟩),.pointer (Q ⟨s,0,E⟩)] W fun e W'=>(∃v,e=.returned v)/\
   ((∃xs,xs=(YB c t st c.n).map YA/\J xs W')\/(∃g,True/\Jx g W')):=by
 obtain⟨-,-,-,-,-,-,q6,-⟩:=zc hR.b0
 have a8:=N.n4
 have a7:=N.n1
 have HC:=zd N
 have HR:=zd hR
 have HJ:=zd hJ
 have HY:=zd hY
 have X:=zd C
 have Y:=zd D
 clear hR hJ hY C N D
 refine callsIn_of_wp func264 rfl trivial ?_ rfl
 simp only[ntmps264,List.size_toArray,List.length_cons,List.length_nil,Nat.reduceAdd,Nat.reduceSub,Array.replicate_succ,Array.replicate_zero,List.push_toArray,List.append_toArray,List.nil_append,List.cons_append]
 gi_wp2
 gi_loopw [5,6,11] (fun _ _ i wr=>∃k:Nat,k<=c.n/\i=I O k/\J ((YB c t st k).map YA) wr/\AR wr q s c a cap t st/\W.1.size<=wr.1.size)
  (fun _ _ i _=>c.n-(intOf i).toNat)
 case atStart=>exact⟨0,Nat.zero_le _,rfl,h0,ud HR,U _⟩
 case round=>
  obtain⟨k,hk,rfl,p,f,a5⟩:=hrel
  by_cases m:k<c.n
  ·have a4:(k:Int)<c.n:=by omega
   obtain⟨b,ad,ha,a6,H⟩:=f.ts (by omega)
   obtain⟨f0,f1,f2⟩:=H k m
   obtain⟨q1,-⟩:=zc f.b1
   obtain⟨q2,-⟩:=zc f.b2
   have a9:=zb f.b1
   have aa:=zb f.b2
   have u:=zd f
   obtain⟨w1,w2⟩:=(ud HC).W k m
   have ab:¬c.W k=0:=by omega
   have HA:=zd ha
   subst ha
   clear f H
   by_cases r:c.F k=t
   ·have a0:(c.F k==t)=true:=by simpa using r
    have d:G wr.1.size wr (wr.alloc (.cells #[I O (c.F k),I O (c.W k),I O (c.K k)] 80)):=(T _ _).alloc (U _) _
    have w:=xr (ud HJ) p d
    obtain⟨fn,tmps,assign,body,hy,a1⟩:=ud HY _ (YA ((k:Int),st/c.W k)) _ w (by rw[List.length_map];exact Nat.lt_of_le_of_lt (zaZ c t st k) m)
    rw[JB (zdI (ud HC) a2 m)]at hy
    dsimp only at hy
    have HF:=zd r
    have o:=zd ((ud u).later d)
    have a3:=d.size
    clear r w d
    gi_wp2
    refine a1.mono ?_
    rintro e W3 (⟨rfl,y,j⟩|⟨rfl,z,j⟩)
    ·have Z:=zd (ud X _ _ j (ud o))
     have ac:=ud Y _ _ j
     have S:Hid (J ((YB c t st (k+1)).map YA) W3):=by show J _ W3;rw[Vs,if_pos (ud HF),List.map_append,List.map_singleton];exact y
     clear y j
     gi_wp2
     go_roundw
     case rel=>exact⟨k+1,by omega,by simp,ud S,ud Z,by omega⟩
     case measure=>simp[intOf];omega
    ·gi_wp2
     refine bodyPost_ret (results_none rfl _ _ _) rfl ?_
     exact⟨⟨_,rfl⟩,.inr ⟨_,trivial,z⟩⟩
   ·have a0:(c.F k==t)=false:=by simpa using r
    have d:G wr.1.size wr (wr.alloc (.cells #[I O (c.F k),I O (c.W k),I O (c.K k)] 80)):=(T _ _).alloc (U _) _
    have P:Hid (J ((YB c t st (k+1)).map YA) (wr.alloc (.cells #[I O (c.F k),I O (c.W k),I O (c.K k)] 80))):=by show J _ _;rw[Vs,if_neg r];exact xr (ud HJ) p d
    have o:=zd ((ud u).later d)
    have a3:=d.size
    clear r d
    gi_wp2
    refine⟨fun _ h=>(by cases h),?_⟩
    gi_wp2
    go_roundw
    case rel=>exact⟨k+1,by omega,by simp,ud P,ud o,by omega⟩
    case measure=>simp[intOf];omega
  ·obtain rfl:k=c.n:=by omega
   gi_wp2
   go_end0
   exact⟨⟨_,rfl⟩,.inl ⟨_,rfl,p⟩⟩
theorem zdJ(q b:Nat)(c:Cf)(r:c.ok)(a:Option Addr)(cap:Nat)(t st:Int)(f:0<=st/\st<=1000000000)(Kp:R->R->Prop)(d:∀A B,Kp A B->AR A q b c a cap t st->AR B q b c a cap t st)(e:∀A B,Kp A B->A.1.size<=B.1.size)(m:Nat)(w:R)(k:AR w q b c a cap t st):
  Yl Fence.wide 6 prog 264 #[.pointer (Q ⟨q,0,E⟩),.pointer (Q ⟨q+1,0,E⟩),.pointer (Q ⟨b,0,E⟩)] (fun x:WP=>#[I O x.1.1,I O x.1.2]) Kp (fun xs=>xs=(YB c t st c.n).map YA) (fun _=>True) c.n m w:=
 fun l J g W o _ i j p h=>zcg l q b c r a cap t st f Kp d e J g p W i (k.later o) h
theorem Vt:∀args w,(callFunc 264 args).run prog w=.ok (.enter 264 args) w:=enters_of func264 (by kernel_rfl) rfl
def zbB(c:Cf)(k:Nat):Int:=c.wh (k:Int)/c.wh (c.F k)
attribute [local go_sem] Oper.semAt_some
def yD(c:Cf)(k:Sg):List Sg:=(YB c k.t (k.wn*c.wh k.t) c.n).map (fun p=>⟨p.1,k.se,p.2⟩)
noncomputable def K6 (se:Int) (p:WP):WSg:=zfW ⟨p.1.1,se,p.1.2⟩
theorem K7{se:Int}(h:xR se)(p:WP):(K6 se p).1=⟨p.1.1,se,p.1.2⟩:=Qc ⟨p.2.1,h,p.2.2⟩
structure HR(W:R)(Bp Bk s:Nat)(k:Sg)(c:Cf)(tv:z9)(lb gb:Nat):Prop where
 bp:W.1[Bp]?=Q (.cells #[.pointer (Q ⟨s,0,E⟩)] 90 (0,0))
 bk:W.1[Bk]?=Q (.cells #[I O k.t,I O k.se,I O k.wn] 146 (0,0))
 hd:kj W s c tv lb gb
theorem HR.later{W e:R}{d b s:Nat}{k:Sg}{c:Cf}{tv:z9}{lb gb:Nat}(h:HR W d b s k c tv lb gb)(a:G W.1.size W e):HR e d b s k c tv lb gb:=
 ⟨(a.block _ (zb h.bp)).trans h.bp,(a.block _ (zb h.bk)).trans h.bk,h.hd.later a⟩
theorem HR.kx{ex:Nat->Prop}{n m:Nat}{W f:R}{b a s:Nat}{k:Sg}{c:Cf}{tv:z9}{lb gb:Nat}(h:HR W b a s k c tv lb gb)(d:KX ex n m W f)(i:b<n/\¬ex b)(j:a<n/\¬ex a)(l:s<n/\¬ex s)(o:∀g,tv.ownBlock=Q g->g<n/\¬ex g):HR f b a s k c tv lb gb:=
 ⟨xV d h.bp i.1 i.2,xV d h.bk j.1 j.2,h.hd.kept d.kept (fun e=>e.elim l.2 (by omega)) (fun g p e=>by have:=o g p;exact e.elim this.2 (by omega))⟩
theorem HR.kept{f:Nat->Prop}{W e:R}{b a s:Nat}{k:Sg}{c:Cf}{tv:z9}{lb gb:Nat}(h:HR W b a s k c tv lb gb)(d:zk f W e)(i:¬f b)(j:¬f a)(l:¬f s)(m:∀g,tv.ownBlock=Q g->¬f g):HR e b a s k c tv lb gb:=
 ⟨d.heap h.bp i,d.heap h.bk j,h.hd.kept d l m⟩
theorem TS.same{A B:R}{a:Option Addr}{n:Nat}{F W K:Nat->Int}(h:TS A a n F W K)(m:A.1.size<=B.1.size)(g:∀b c,a=Q ⟨b,c,E⟩->B.1[b]?=A.1[b]?):TS B a n F W K:=fun f=>by
 obtain⟨b,c,e,l,j⟩:=h f
 have d:∀o,B.cell? ⟨b,o,E⟩=A.cell? ⟨b,o,E⟩:=fun o=>by unfold World.cell?;rw[g b c e]
 exact⟨b,c,e,by omega,fun i k=>by rw[d,d,d];exact j i k⟩
theorem YM(s:Nat)(k:Sg)(w:R):
  Calls prog 178 #[.pointer (Q ⟨s,0,E⟩),.agg #[I O k.t,I O k.se,I O k.wn]] w fun e w'=>e=.returned (.func (.func 235) #[] #[.pointer (Q ⟨w.1.size,0,E⟩),.pointer (Q ⟨w.1.size+1,0,E⟩)])/\w'=(w.alloc (.cells #[.pointer (Q ⟨s,0,E⟩)] 90)).alloc (.cells #[I O k.t,I O k.se,I O k.wn] 146):=by
 go_enter func178,ntmps178
 go_wp2_with fail
 go_ret
 exact⟨rfl,rfl⟩
structure KY(ex:Nat->Prop)(n m l:Nat)(A B:R):Prop where
 kept:zk (fun k=>ex k\/n<=k) A B
 walk:∀k o,¬ex k->A.1[k]?=Q o->o.isWalk=true->B.1[k]?=Q o
 high:∀k o,k≠l->m<=k->¬zkD o->A.1[k]?=Q o->B.1[k]?=Q o
theorem KY.trans{ex:Nat->Prop}{n m l:Nat}{A B C:R}(h:KY ex n m l A B)(k:KY ex n m l B C):KY ex n m l A C:=⟨h.kept.trans k.kept (fun _ _ h=>h),fun i o a b d=>k.walk i o a (h.walk i o a b d) d,fun i o c a hn b=>k.high i o c a hn (h.high i o c a hn b)⟩
theorem KX.y{ex:Nat->Prop}{n m:Nat}{A B:R}(h:KX ex n m A B)(l:Nat):KY ex n m l A B:=⟨h.kept,h.walk,fun k o _=>h.high k o⟩
theorem KY.putObj{ex:Nat->Prop}{n m l:Nat}{W:R}{o:Obj}(d:Obj)(b:n<=l)(h:W.1[l]?=Q o)(f:o.isWalk=false):KY ex n m l W (W.putObj l d):=
 ⟨(zk.refl _ _).grown (grownBy_putObj' W l d) (fun k e _=>by cases e;exact .inr b),fun k p g a c=>by
  by_cases e:k=l
  ·subst e;rw[h]at a;cases a;rw[f]at c;cases c
  ·exact(World.putObj_heap_other e).trans a,fun k p b g _ a=>(World.putObj_heap_other b).trans a⟩
theorem zbq{ex:Nat->Prop}{n:Nat}(Bp C s:Nat)(k:Sg)(c:Cf)(hc:c.ok)(tv:z9)(lb gb:Nat)(a6: -1<=k.t)(d:k.t<c.n)(aj:0<=k.wn/\k.wn<=100000)(ak:xR k.se)(w:R)(hn:n<=w.1.size)(hR:HR w Bp C s k c tv lb gb)
  (h1:Bp<n/\¬ex Bp) (h2:C<n/\¬ex C) (h3:s<n/\¬ex s) (h4:∀g,tv.ownBlock=Q g->g<n/\¬ex g):
  jW ex n prog 235 #[.pointer (Q ⟨Bp,0,E⟩),.pointer (Q ⟨C,0,E⟩)] (fun x:WSg=>#[.agg #[I O x.1.t,I O x.1.se,I O x.1.wn]]) (fun xs=>xs=((YB c k.t (k.wn*c.wh k.t) c.n).map YA).map (K6 k.se)) c.n w:=by
 intro m hm l J Jx N hW aR hJ af hY h0
 have ag:=hR.later hW
 obtain⟨a,cap,rfl⟩:=zm hR.hd.trow
 have aI:=hW.size
 have a0:G N.1.size N (N.alloc (.cells #[.func (.yield l) #[] #[]] 206)):=(T _ _).alloc (U _) _
 have an:=zr N (.cells #[.func (.yield l) #[] #[]] 206)
 have am:=zG N (.cells #[.func (.yield l) #[] #[]] 206)
 have j:=ag.later a0
 have ad:=xr hJ h0 a0
 have ah:=hW.trans (a0.mono aI)
 have aG:0<=k.wn*c.wh k.t/\k.wn*c.wh k.t<=1000000000:=by
  obtain⟨aT,aH⟩:=hc.wh a6 d
  constructor
  ·exact Int.mul_nonneg (by omega) (by omega)
  ·have:=Int.mul_le_mul (show k.wn<=100000 by omega) aH (by omega) (by omega);omega
 have ap:=zd (YT c hc a cap k.t k.wn a6 d aj _ (TS.of_owns j.hd.trow))
 have a7:=zd (YT c hc a cap k.t k.wn a6 d aj (N.alloc (.cells #[.func (.yield l) #[] #[]] 206)).drew (TS.of_owns j.hd.trow))
 obtain⟨c0,c1,c2,c3,c4,c5,c6,-,-⟩:=j.hd.cells
 have u:=j.hd.lt
 obtain⟨p0,-⟩:=zc j.bp
 obtain⟨k0,-,k2,-⟩:=zc j.bk
 have aE:=zb j.bp
 have ab:=zb j.bk
 have HC:=zd hc
 have ay:=zd j
 have aC:=zd an
 have aA:=zd am
 have av:=zd ad
 have HJ:=zd hJ
 have a8:=zd af
 have HY:=zd hY
 have aa:=zd ah
 have ax:=zd ak
 clear hR ag j an am ad hJ af hY a0 ah hc h0 ak
 refine callsIn_wide.2 ((callsIn_wide (n:=7)).1 ?_)
 refine callsIn_of_wp_marks func235 rfl trivial ?_ rfl
 simp only[ntmps235,List.size_toArray,List.length_cons,List.length_nil,Nat.reduceAdd,Nat.reduceSub,Array.replicate_succ,Array.replicate_zero,List.push_toArray,List.append_toArray,List.nil_append,List.cons_append]
 refine wpIn_wide.2 ?_
 go_wp2_with fail
 generalize(N.alloc (.cells #[.func (.yield l) #[] #[]] 206))=X at*
 go_region_held3 (fun w'=>w'.cell? ⟨Bp,0,E⟩=Q (.pointer (Q ⟨s,0,E⟩))/\w'.cell? ⟨s,0,E⟩=Q (I O c.s)/\w'.cell? ⟨s,1,E⟩=Q (I O c.le)/\w'.cell? ⟨s,2,E⟩=Q (I O c.la)/\w'.cell? ⟨s,3,E⟩=Q (I O c.wi)/\w'.cell? ⟨s,4,E⟩=Q (I O c.ke)/\w'.cell? ⟨s,5,E⟩=Q (I O c.qu)/\w'.cell? ⟨s,6,E⟩=Q (.slice a c.n cap)/\w'.cell? ⟨C,0,E⟩=Q (I O k.t)/\w'.cell? ⟨C,2,E⟩=Q (I O k.wn)) (go_keep) (first
  |(go_at_call 236;(first|refine(ud ap).mono ?_|refine(ud a7).mono ?_);rintro e H ⟨Bs,rfl,P,ac,i⟩;have d0:=(i.cell (p:=⟨Bp,0,E⟩) aE).trans p0;have d1:=(i.cell (p:=⟨s,0,E⟩) u).trans c0;have d2:=(i.cell (p:=⟨s,1,E⟩) u).trans c1;have d3:=(i.cell (p:=⟨s,2,E⟩) u).trans c2;have d4:=(i.cell (p:=⟨s,3,E⟩) u).trans c3;have d5:=(i.cell (p:=⟨s,4,E⟩) u).trans c4;have d6:=(i.cell (p:=⟨s,5,E⟩) u).trans c5;have d7:=(i.cell (p:=⟨s,6,E⟩) u).trans c6;have d8:=(i.cell (p:=⟨C,0,E⟩) ab).trans k0;have d9:=(i.cell (p:=⟨C,2,E⟩) ab).trans k2;have aq:=zd P;have L:=zd i;clear P i))
 go_wp2_with fail
 have ao:X.1.size=N.1.size+1:=ud aA
 have S:G X.1.size X H:=⟨(ud L).os,(ud L).tape,(ud L).output,(ud L).size,(ud L).block⟩
 have P:AR H X.1.size Bs c a cap k.t (k.wn*c.wh k.t):=ud aq
 have aK:X.1.size<=Bs:=ac
 have aM:=S.size
 have HV:=zd S
 have v:=zd P
 have aL:=zd ((ud aa).trans (S.mono (ud aa).size))
 have aw:=zd (xr (ud HJ) (ud av) ⟨S.os,S.tape,S.output,S.size,S.block⟩)
 have a9:=zd ((ud ay).later S)
 have aD:=zd ((S.block _ (by omega)).trans (ud aC))
 obtain⟨g,aJ,ai,aP,aQ⟩:=(ud a9).hd.trow.form (by have:=(ud HC).n1;omega)
 have V:a=Q ⟨g,0,E⟩:=by injection ai
 have aF:=h4 g (by rw[V];rfl)
 have aU:=zb (ud v).b1
 have aV:=zb (ud v).b2
 have aS:m<=H.1.size:=by omega
 have aN:N.1.size<H.1.size:=by omega
 clear d0 d1 d2 d3 d4 d5 d6 d7 d8 d9 c0 c1 c2 c3 c4 c5 c6 p0 k0 k2 ai ac P S
 refine(wpIn_wide (n:=7)).1 ?_
 refine yM (F:=Fence.wide) (n:=7) (m:=0) rfl (by omega) (gf:=264) (lb:=#[.pointer (Q ⟨X.1.size,0,E⟩),.pointer (Q ⟨X.1.size+1,0,E⟩),.pointer (Q ⟨Bs,0,E⟩)]) rfl trivial Vt
  (zdJ X.1.size Bs c (ud HC) a cap k.t (k.wn*c.wh k.t) aG (KY ex n m (H.1.size+1)) (fun A B hk hA=>⟨hk.high _ _ (by omega) (by omega) (fun⟨_,_,e⟩=>by cases e) hA.b0,hk.high _ _ (by omega) (by omega) (fun⟨_,_,e⟩=>by cases e) hA.b1,hk.high _ _ (by have:=zb (ud v).b2;omega) (by omega) (fun⟨_,_,e⟩=>by cases e) hA.b2,TS.same hA.ts hk.kept.size (fun b aY e=>by rw[V]at e;injection e with e;injection e with e1 e2;subst e1;exact hk.kept.block _ (by have:=hA.ts;obtain⟨b',o',e3,h5,_⟩:=this (by have:=(ud HC).n1;omega);rw[V]at e3;injection e3 with e3;injection e3 with e3 _;rw[e3];exact h5) (fun e=>e.elim aF.2 (by omega)))⟩) (fun A B hk=>hk.kept.size) 0 H (ud v)) (Nat.zero_le _) (fun h k=>h.trans k) (fun W o o' h hc hw=>KY.putObj o' (by omega) h hw) (T _ _) (fun _=>rfl)
  (fun z W=>J (z.map (K6 k.se)) W/\HR W Bp C s k c (.slice a c.n cap) lb gb/\W.1[N.1.size]?=Q (.cells #[.func (.yield l) #[] #[]] 206 (0,0))/\H.1.size<=W.1.size)
  (fun c z W=>c=.ret/\∃q,Jx q W)
  (fun s A B row hs Y Z=>⟨ud HJ _ A B row hs.1 Y (fun r e=>⟨by have:=(Z r e).1;omega,(Z r e).2⟩),hs.2.1.kept (f:=fun k=>H.1.size<=k) ⟨Y.os,Y.tape,Y.output,Y.size,fun k hk hn=>Y.block k hk (fun e=>hn (Z k e.symm).1)⟩ (by have:=h1.1;omega) (by have:=h2.1;omega) (by have:=h3.1;omega) (fun g hh=>by have:=(h4 g hh).1;omega),zI hs.2.2.1 Y (fun r e=>(Z r e).2),zf hs.2.2.2 Y.size⟩)
  (fun c s A B row hs Y Z=>⟨hs.1,by obtain⟨q,hq⟩:=hs.2;exact⟨q,ud a8 q A B row hq Y (fun r e=>⟨by have:=(Z r e).1;omega,(Z r e).2⟩)⟩⟩)
  ⟨ud aw,ud a9,ud aD,U _⟩
  (fun x a' W=>a'={tmps:=#[.func (.yield l) #[] #[],.pointer (Q ⟨Bp,0,E⟩),.pointer (Q ⟨C,0,E⟩),.pointer (Q ⟨N.1.size,0,E⟩),I O x.1.1,I O x.1.2,.pointer (Q ⟨s,0,E⟩),.pointer (Q ⟨s,0,E⟩),.pointer (Q ⟨s,0,E⟩),.agg #[I O c.s,I O c.le,I O c.la,I O c.wi,I O c.ke,I O c.qu,.slice a c.n cap],.pointer (Q ⟨C,0,E⟩),I O k.t,.pointer (Q ⟨C,2,E⟩),I O k.wn,.func (.func 264) #[] #[.pointer (Q ⟨X.1.size,0,E⟩),.pointer (Q ⟨X.1.size+1,0,E⟩),.pointer (Q ⟨Bs,0,E⟩)],I O x.1.1,I O x.1.2,undef,undef,undef,undef,undef,undef,undef,undef],defers:=[]})
  (fun x a' s A B row hs Y Z=>hs) ?assign ?body ?done ?stop
 case assign=>
  rintro l' z x W K hi hK
  have HK:=zd hK
  have HI:=zd hi
  clear hK hi ao V
  gi_wp2
  exact ud HK _ _ (KeepsFrom.refl _ _) ((KX.refl _ _ _ _).y _) (ud HI) rfl
 case body=>
  rintro l' z x a' W hl ⟨r,Z⟩ ⟨i1,i2,i3,i4⟩ rfl al
  have aO:=zb i2.bk
  have aW:=zb i3
  obtain⟨-,k1,-⟩:=zc i2.bk
  obtain⟨y0,-⟩:=zc i3
  obtain⟨fn,tmps,assign,body,hy,hR⟩:=jE (m':=4) rfl (ud HY (z.map (K6 k.se)) (K6 k.se x) W i1 (by rw[List.length_map];exact al))
  rw[K7 (ud ax)]at hy
  dsimp only at hy
  have ar:=zd i2
  have au:=zd i3
  clear i1 i2 i3 Z ao V
  gi_wp2
  refine RoundIn.mono (F:=Fence.wide.inRound l') hR ?_
  rintro e W2 (⟨rfl,ae,d⟩|⟨rfl,a1,d⟩)
  ·have a4:=zd (d.from (q:=H.1.size) (by omega))
   have a5:=zd (d.y (H.1.size+1))
   have az:=zd ((ud ar).kx d h1 h2 h3 h4)
   have aB:=zd (d.high _ _ (by omega) (fun⟨_,_,e⟩=>by cases e) (ud au))
   have aX:=d.kept.size
   have a2:=zd ae
   clear ae d
   gi_wp2
   exact⟨ud a4,ud a5,by rw[List.map_append,List.map_singleton];exact ud a2,ud az,ud aB,by omega⟩
  ·have a4:=zd (d.from (q:=H.1.size) (by omega))
   have a5:=zd (d.y (H.1.size+1))
   have a2:=zd a1
   clear a1 d
   gi_wp2
   exact⟨ud a4,ud a5,rfl,_,ud a2⟩
 case done=>
  rintro D xs W hD hS ⟨i1,-,-,-⟩ hK
  have a3:=zd (OwnFrom.putObj (ud HJ) (.deferred E) i1 (by omega) hK rfl)
  subst hS
  clear i1
  gi_wp2
  refine⟨by simp,.inl ⟨_,_,rfl,run_takeDeferred hK,?_⟩⟩
  exact⟨_,results_none rfl _ _ _,⟨_,rfl⟩,.inl ⟨_,rfl,ud a3⟩⟩
 case stop=>
  rintro D c z W hD hS ⟨rfl,q,hq⟩ hK
  have a3:=zd (OwnFrom.putObj (ud a8) (.deferred E) hq (by omega) hK rfl)
  clear hq
  gi_wp2
  refine⟨by simp,.inl ⟨_,_,rfl,run_takeDeferred hK,?_⟩⟩
  exact⟨_,results_none rfl _ _ _,⟨_,rfl⟩,.inr ⟨_,trivial,ud a3⟩⟩
theorem Qv:∀args w,(callFunc 235 args).run prog w=.ok (.enter 235 args) w:=enters_of func235 (by kernel_rfl) rfl
def kJ(c:Cf)(a:List (Sg×Unit))(L:LV)(now:Int)(k:Sg):Bool:=(zS a k).isNone&&((stL L k).st==2)&&decide ((k.wn+1)*c.wh k.t<=now-c.la)
theorem Vb{w:R}{s:Nat}{c:Cf}{tv:z9}{lb gb:Nat}{Gl:List (Sg×Unit)}{L:LV}(h:xl w s c tv lb gb Gl L)(hc:c.ok){K:Nat}{x:List (Sg×Unit)}(F:xj vf w K x)(k:Sg)(hk:k.wf)(a0: -1<=k.t)(a1:k.t<c.n)(a2:0<=k.wn/\k.wn<=100000)(now:Int)(D:0<=now/\now<=100000)
  (J z y:Nat) (b1:w.cell? ⟨J,0,E⟩=Q (.map (Q K))) (b2:w.cell? ⟨z,0,E⟩=Q (.pointer (Q ⟨s,0,E⟩))) (b3:w.cell? ⟨y,0,E⟩=Q (I O now)) (l1:J<w.1.size) (l2:z<w.1.size) (l3:y<w.1.size):
  Calls prog 174 #[.agg #[I O k.t,I O k.se,I O k.wn],.pointer (Q ⟨J,0,E⟩),.pointer (Q ⟨z,0,E⟩),.pointer (Q ⟨y,0,E⟩)] w fun e w'=>e=.returned (.bool (kJ c x L now k))/\G w.1.size w w':=by
 obtain⟨a,cap,rfl⟩:=zm h.trow
 have g:=h.lt
 have i:G w.1.size w (w.alloc (.cells #[I O k.t,I O k.se,I O k.wn] 146)):=(T _ _).alloc (U _) _
 have y0:=zr w (.cells #[I O k.t,I O k.se,I O k.wn] 146)
 have yz:=zG w (.cells #[I O k.t,I O k.se,I O k.wn] 146)
 obtain⟨c0,c1,c2,c3,c4,c5,c6,-,-⟩:=h.cells
 have j:=fun W Z=>zd (jy (h.later (w':=W) Z) k hk)
 have A:=fun W Z=>zd (QH c hc a cap k.t k.wn now a0 a1 a2 D W ((TS.of_owns h.trow).below (w':=W) Z))
 obtain⟨v,hv⟩:∃v,stL L k=v:=⟨_,rfl⟩
 obtain⟨d,hd⟩:∃d,decide ((k.wn+1)*c.wh k.t<=now-c.la)=d:=⟨_,rfl⟩
 have S:Hid (kJ c x L now k=((zS x k).isNone&&(v.st==2)&&d)):=by show kJ c x L now k=_;unfold kJ;rw[hv,hd]
 rw[ud S]
 rw[hv]at j
 rw[hd]at A
 have P:=fun X C=>vl Z3 true (F.later (w':=X) C) hk
 clear h F hc hv hd
 cases hg:zS x k
 case' some u=>
  have Y:∀X,G w.1.size w X->(Instr.lookup 153 (.map (Q K)) (.agg #[I O k.t,I O k.se,I O k.wn]) true).run prog X=.ok (.tuple #[.agg #[],.bool true]) X:=fun X C=>by have:=P X C;rw[hg]at this;exact this
 case' none=>
  have Y:∀X,G w.1.size w X->(Instr.lookup 153 (.map (Q K)) (.agg #[I O k.t,I O k.se,I O k.wn]) true).run prog X=.ok (.tuple #[.agg #[],.bool false]) X:=fun X C=>by have:=P X C;rw[hg]at this;exact this
  cases l:(v.st==2)
  case' false=>
   rw[l]at j
   clear l
  case' true=>
   rw[l]at j
   clear l
   cases d
 all_goals
  have q0:=Y _ i
  obtain⟨k0,k1,k2,-⟩:=zc y0
  have m1:=(i.cell (p:=⟨J,0,E⟩) l1).trans b1
  have r:G (w.1.size+1) (w.alloc (.cells #[I O k.t,I O k.se,I O k.wn] 146)) ((w.alloc (.cells #[I O k.t,I O k.se,I O k.wn] 146)).alloc (.cells #[] 257)):=(T _ _).alloc (by rw[yz];omega) _
  have f:G w.1.size w ((w.alloc (.cells #[I O k.t,I O k.se,I O k.wn] 146)).alloc (.cells #[] 257)):=i.trans (r.mono (by omega))
  have H:((w.alloc (.cells #[I O k.t,I O k.se,I O k.wn] 146)).alloc (.cells #[] 257)).1.size=w.1.size+2:=by rw[zG,yz]
  have y2:=(r.block w.1.size (by omega)).trans y0
  obtain⟨z0,z1,z2,-⟩:=zc y2
  have n2:=(f.cell (p:=⟨z,0,E⟩) l2).trans b2
  have n3:=(f.cell (p:=⟨y,0,E⟩) l3).trans b3
  have s0:=(f.cell (p:=⟨s,0,E⟩) g).trans c0
  have s1:=(f.cell (p:=⟨s,1,E⟩) g).trans c1
  have s2:=(f.cell (p:=⟨s,2,E⟩) g).trans c2
  have s3:=(f.cell (p:=⟨s,3,E⟩) g).trans c3
  have s4:=(f.cell (p:=⟨s,4,E⟩) g).trans c4
  have s5:=(f.cell (p:=⟨s,5,E⟩) g).trans c5
  have s6:=(f.cell (p:=⟨s,6,E⟩) g).trans c6
  have m:=zd f
  have V:=zd H
  clear P Y i y0 yz b1 b2 b3 r f y2 H c0 c1 c2 c3 c4 c5 c6
  go_enter func174,ntmps174
  go_wp2_with fail
  have r1:w.1.size<w.1.size+2:=by omega
  have r2:z<w.1.size+2:=by omega
  have r3:y<w.1.size+2:=by omega
  have r4:s<w.1.size+2:=by omega
  have q:Hid (w.1.size<=w.1.size+2):=by show w.1.size<=w.1.size+2;omega
  clear k0 k1 k2 m1 q0
  generalize((w.alloc (.cells #[I O k.t,I O k.se,I O k.wn] 146)).alloc (.cells #[] 257))=X at*
  generalize w.1.size+2=N at*
  have B:Hid (N<=X.1.size):=by show N<=X.1.size;rw[ud V];exact U _
  have a4:Nonempty (zj N X):=zj.some _ _
  have a3:=fun(u:zj N X) b o h=>u.cell b o h
  refine ze N (by kernel_rfl) (by kernel_rfl) ?_
  repeat(go_big_quiet_step (first
   |(go_at_call 175;exact Calls.later (ud B) (ud (j _ ((ud m).trans (Below.mono (Subtype.property _) (ud q))))))
   |(go_at_call 117;exact Calls.later (ud B) (ud (A _ ((ud m).trans (Below.mono (Subtype.property _) (ud q))))))))
  refine wpQuiet_nil ?_
  rintro⟨w1,i⟩
  clear a3 a4
  dsimp only
  go_wp2_with fail
  go_ret
  exact⟨rfl,(ud m).trans (i.mono (ud q))⟩
noncomputable def kU (c:Cf) (k:Sg):List WSg:=((YB c k.t (k.wn*c.wh k.t) c.n).map YA).map (K6 k.se)
theorem VK(c:Cf)(k:Sg):(kU c k).length<=c.n:=by unfold kU;rw[List.length_map,List.length_map];exact zaZ _ _ _ _
noncomputable def Xt (c:Cf) (L:LV) (k:Sg):Bool:=((((kU c k).filter (fun x=>(stL L x.1).st==2)).length:Int)==0)
noncomputable def kI (c:Cf) (L:LV) (now:Int) (k:Sg):Bool:=!((stL L k).st==2)&&decide ((k.wn+1)*c.wh k.t+c.keep k.t<=now)&&Xt c L k
theorem zeN{w:R}{base:Nat}{e:TypeId}{size:Nat}{v:z9}{n:Nat}{xs:List z9}(h:w.ownsRow base e size v n xs):∀k,v.ownBlock=Q k->k<w.1.size:=fun k c=>by obtain⟨a,b⟩:=zz h c;exact zb b
theorem XM:∀args w,(callFunc 175 args).run prog w=.ok (.enter 175 args) w:=enters_of func175 (by kernel_rfl) rfl
theorem zcv{w:R}{s:Nat}{c:Cf}{tv:z9}{lb gb:Nat}{Gl:List (Sg×Unit)}{L:LV}(h:xl w s c tv lb gb Gl L)(o:c.ok)(k:Sg)(v:k.wf)(i: -1<=k.t)(j:k.t<c.n)(l:0<=k.wn/\k.wn<=100000):
  Calls prog 119 #[.func (.func 235) #[] #[.pointer (Q ⟨w.1.size,0,E⟩),.pointer (Q ⟨w.1.size+1,0,E⟩)],.func (.func 175) #[.pointer (Q ⟨s,0,E⟩)] #[]] ((w.alloc (.cells #[.pointer (Q ⟨s,0,E⟩)] 90)).alloc (.cells #[I O k.t,I O k.se,I O k.wn] 146)) fun e w'=>e=.returned (I O ((kU c k).filter (fun x=>(stL L x.1).st==2)).length)/\G ((w.alloc (.cells #[.pointer (Q ⟨s,0,E⟩)] 90)).alloc (.cells #[I O k.t,I O k.se,I O k.wn] 146)).1.size ((w.alloc (.cells #[.pointer (Q ⟨s,0,E⟩)] 90)).alloc (.cells #[I O k.t,I O k.se,I O k.wn] 146)) w':=by
 obtain⟨z,A,d,b⟩:=box2 w (.cells #[.pointer (Q ⟨s,0,E⟩)] 90) (.cells #[I O k.t,I O k.se,I O k.wn] 146)
 have m:=h.later d
 have y:=h.lt
 have a:∀g,tv.ownBlock=Q g->g<w.1.size:=fun g f=>zeN h.trow g f
 refine(zdX (fun x:WSg=>x.1) 235 _ Qv 175 #[.pointer (Q ⟨s,0,E⟩)] #[] XM (fun x=>(stL L x.1).st==2) _ (fun x W q=>jy (m.later q) x.1 x.2)
  (zbq (ex:=fun _=>False) w.1.size (w.1.size+1) s k c o tv lb gb i j l v.2.1 _ (U _) ⟨z,A,m.hd⟩ ⟨by rw[b];omega,fun e=>e⟩ ⟨by rw[b];omega,fun e=>e⟩ ⟨by rw[b];omega,fun e=>e⟩ (fun g f=>⟨by have:=a g f;rw[b];omega,fun e=>e⟩))
  (fun xs e=>by rw[e];have:=VK c k;have:=o.n4;unfold kU at*;omega)).mono ?_
 rintro e w' ⟨xs,p,u,r⟩
 subst p
 exact⟨u,r⟩
theorem XT{w:R}{s:Nat}{c:Cf}{tv:z9}{lb gb:Nat}{Gl:List (Sg×Unit)}{L:LV}(h:xl w s c tv lb gb Gl L)(hc:c.ok)(k:Sg)(hk:k.wf)(bk: -1<=k.t)(bl:k.t<c.n)(aP:0<=k.wn/\k.wn<=100000)(now:Int)(bm:0<=now/\now<=100000)
  (Bp Bn:Nat) (b2:w.cell? ⟨Bp,0,E⟩=Q (.pointer (Q ⟨s,0,E⟩))) (b3:w.cell? ⟨Bn,0,E⟩=Q (I O now)) (l2:Bp<w.1.size) (l3:Bn<w.1.size):
  Calls prog 176 #[.agg #[I O k.t,I O k.se,I O k.wn],.pointer (Q ⟨Bp,0,E⟩),.pointer (Q ⟨Bn,0,E⟩)] w fun e w'=>e=.returned (.bool (kI c L now k))/\G w.1.size w w':=by
 obtain⟨a,cap,rfl⟩:=zm h.trow
 have K:=h.lt
 have j:G w.1.size w (w.alloc (.cells #[I O k.t,I O k.se,I O k.wn] 146)):=(T _ _).alloc (U _) _
 have y0:=zr w (.cells #[I O k.t,I O k.se,I O k.wn] 146)
 have yz:=zG w (.cells #[I O k.t,I O k.se,I O k.wn] 146)
 obtain⟨c0,c1,c2,c3,c4,c5,c6,-,-⟩:=h.cells
 have D:=fun W hW=>zd (jy (h.later (w':=W) hW) k hk)
 have Z:=fun W hW=>zd (zev c hc a cap k.t k.wn bk bl aP W ((TS.of_owns h.trow).below (w':=W) hW))
 have aJ:=fun W=>zd (YM s k W)
 have ae:=fun W hW=>zd (zcv (h.later (w':=W) hW) hc k hk bk bl aP)
 obtain⟨v,hv⟩:∃v,stL L k=v:=⟨_,rfl⟩
 obtain⟨u,hu⟩:∃u,(k.wn+1)*c.wh k.t+c.keep k.t=u:=⟨_,rfl⟩
 obtain⟨q,hq⟩:∃q:Nat,((kU c k).filter (fun x=>(stL L x.1).st==2)).length=q:=⟨_,rfl⟩
 have bp:Hid (kI c L now k=(!(v.st==2)&&decide (u<=now)&&((q:Int)==0))):=by show kI c L now k=_;unfold kI Xt;rw[hv,hu,hq]
 rw[ud bp]
 rw[hv]at D
 rw[hu]at Z
 rw[hq]at ae
 have ba:=(j.cell (p:=⟨Bp,0,E⟩) l2).trans b2
 have bb:=(j.cell (p:=⟨Bn,0,E⟩) l3).trans b3
 have bc:=(j.cell (p:=⟨s,0,E⟩) K).trans c0
 have bd:=(j.cell (p:=⟨s,1,E⟩) K).trans c1
 have be:=(j.cell (p:=⟨s,2,E⟩) K).trans c2
 have bf:=(j.cell (p:=⟨s,3,E⟩) K).trans c3
 have bg:=(j.cell (p:=⟨s,4,E⟩) K).trans c4
 have bh:=(j.cell (p:=⟨s,5,E⟩) K).trans c5
 have bi:=(j.cell (p:=⟨s,6,E⟩) K).trans c6
 obtain⟨bj,aG,aH,-⟩:=zc y0
 have y:s<(w.alloc (.cells #[I O k.t,I O k.se,I O k.wn] 146)).1.size:=by rw[yz];omega
 have ac:Bp<(w.alloc (.cells #[I O k.t,I O k.se,I O k.wn] 146)).1.size:=by rw[yz];omega
 have ad:Bn<(w.alloc (.cells #[I O k.t,I O k.se,I O k.wn] 146)).1.size:=by rw[yz];omega
 have J:w.1.size<(w.alloc (.cells #[I O k.t,I O k.se,I O k.wn] 146)).1.size:=by rw[yz];omega
 have C:=zd j
 have af:=D _ j
 have P:=D (w.alloc (.cells #[I O k.t,I O k.se,I O k.wn] 146)).drew j.drew
 clear h hc hv hu hq b2 b3 j y0 yz c0 c1 c2 c3 c4 c5 c6 aP hk bm
 cases ag:(v.st==2)with
 |true=>
  rw[ag]at D
  clear ag af P
  have aM:Hid ((w.alloc (.cells #[I O k.t,I O k.se,I O k.wn] 146)).1.size=w.1.size+1):=zG w _
  go_enter func176,ntmps176
  go_wp2_with fail
  have r1:w.1.size<w.1.size+1:=by omega
  have r2:Bp<w.1.size+1:=by omega
  have r3:Bn<w.1.size+1:=by omega
  have r4:s<w.1.size+1:=by omega
  have H:Hid (w.1.size<=w.1.size+1):=by show w.1.size<=w.1.size+1;omega
  clear y ac ad J
  generalize(w.alloc (.cells #[I O k.t,I O k.se,I O k.wn] 146))=X at*
  generalize w.1.size+1=N at*
  have a1:Hid (N<=X.1.size):=by show N<=X.1.size;rw[ud aM];exact U _
  have aR:Nonempty (zj N X):=zj.some _ _
  have aQ:=fun(u:zj N X) b o h=>u.cell b o h
  refine ze N (by kernel_rfl) (by kernel_rfl) ?_
  repeat(go_big_quiet_step (first
   |(go_at_call 175;exact Calls.later (ud a1) (ud (D _ ((ud C).trans (Below.mono (Subtype.property _) (ud H))))))
   |(go_at_call 177;exact Calls.later (ud a1) (ud (Z _ ((ud C).trans (Below.mono (Subtype.property _) (ud H))))))))
  refine wpQuiet_nil ?_
  rintro⟨w1,j⟩
  clear aQ aR
  dsimp only
  go_wp2_with fail
  go_ret
  exact⟨rfl,(ud C).trans (j.mono (ud H))⟩
 |false=>
  rw[ag]at D af P
  clear ag
  by_cases bn:u<=now
  ·have hd:decide (u<=now)=true:=by simpa using bn
   rw[hd]
   clear D
   go_enter func176,ntmps176
   go_wp2_with fail
   generalize(w.alloc (.cells #[I O k.t,I O k.se,I O k.wn] 146))=X at*
   go_region_held3 (fun w'=>w'.cell? ⟨Bp,0,E⟩=Q (.pointer (Q ⟨s,0,E⟩))/\w'.cell? ⟨Bn,0,E⟩=Q (I O now)/\w'.cell? ⟨s,0,E⟩=Q (I O c.s)/\w'.cell? ⟨s,1,E⟩=Q (I O c.le)/\w'.cell? ⟨s,2,E⟩=Q (I O c.la)/\w'.cell? ⟨s,3,E⟩=Q (I O c.wi)/\w'.cell? ⟨s,4,E⟩=Q (I O c.ke)/\w'.cell? ⟨s,5,E⟩=Q (I O c.qu)/\w'.cell? ⟨s,6,E⟩=Q (.slice a c.n cap)/\w'.cell? ⟨w.1.size,0,E⟩=Q (I O k.t)/\w'.cell? ⟨w.1.size,1,E⟩=Q (I O k.se)/\w'.cell? ⟨w.1.size,2,E⟩=Q (I O k.wn)) (go_keep) (first
    |(go_at_call 175;(first|refine(ud af).mono ?_|refine(ud P).mono ?_);rintro e V1 ⟨rfl,z⟩;have d:G X.1.size X V1:=⟨z.os,z.tape,z.output,z.size,z.block⟩;have a6:=d.size;have l:=M y a6;have a4:=M ac a6;have a5:=M ad a6;have F:=M J a6;have ai:=(d.cell (p:=⟨Bp,0,E⟩) ac).trans ba;have aj:=(d.cell (p:=⟨Bn,0,E⟩) ad).trans bb;have ak:=(d.cell (p:=⟨s,0,E⟩) y).trans bc;have al:=(d.cell (p:=⟨s,1,E⟩) y).trans bd;have am:=(d.cell (p:=⟨s,2,E⟩) y).trans be;have an:=(d.cell (p:=⟨s,3,E⟩) y).trans bf;have ao:=(d.cell (p:=⟨s,4,E⟩) y).trans bg;have ap:=(d.cell (p:=⟨s,5,E⟩) y).trans bh;have aq:=(d.cell (p:=⟨s,6,E⟩) y).trans bi;have ar:=(d.cell (p:=⟨w.1.size,0,E⟩) J).trans bj;have a2:=(d.cell (p:=⟨w.1.size,1,E⟩) J).trans aG;have a3:=(d.cell (p:=⟨w.1.size,2,E⟩) J).trans aH;have V:=(ud C).trans (d.mono (ud C).size);have aU:=Z V1 V;have aK:=Z V1.drew V.drew;have ah:=zd V;clear z d V a6 Z ba bb bc bd be bf bg bh bi bj aG aH y ac ad J)
    |(go_at_call 177;(first|refine(ud aU).mono ?_|refine(ud aK).mono ?_);rintro e V2 ⟨rfl,A⟩;have f:G V1.1.size V1 V2:=⟨A.os,A.tape,A.output,A.size,A.block⟩;have a9:=f.size;have m:=M l a9;have aE:=M a4 a9;have aF:=M a5 a9;have S:=M F a9;have au:=(f.cell (p:=⟨Bp,0,E⟩) a4).trans ai;have av:=(f.cell (p:=⟨Bn,0,E⟩) a5).trans aj;have aw:=(f.cell (p:=⟨s,0,E⟩) l).trans ak;have ax:=(f.cell (p:=⟨s,1,E⟩) l).trans al;have ay:=(f.cell (p:=⟨s,2,E⟩) l).trans am;have az:=(f.cell (p:=⟨s,3,E⟩) l).trans an;have aA:=(f.cell (p:=⟨s,4,E⟩) l).trans ao;have aB:=(f.cell (p:=⟨s,5,E⟩) l).trans ap;have aC:=(f.cell (p:=⟨s,6,E⟩) l).trans aq;have aD:=(f.cell (p:=⟨w.1.size,0,E⟩) F).trans ar;have a7:=(f.cell (p:=⟨w.1.size,1,E⟩) F).trans a2;have a8:=(f.cell (p:=⟨w.1.size,2,E⟩) F).trans a3;have Y:=(ud ah).trans (f.mono (ud ah).size);have aV:=aJ V2;have aL:=aJ V2.drew;have aT:=ae V2 Y;have aI:=ae V2.drew Y.drew;have a0:=zd Y;clear A f Y a9 ae aJ ai aj ak al am an ao ap aq ar a2 a3 l a4 a5 F)
    |(go_at_call 178;(first|refine(ud aV).mono ?_|refine(ud aL).mono ?_);rintro e V3 ⟨rfl,rfl⟩;obtain⟨-,-,g,-⟩:=box2 V2 (.cells #[.pointer (Q ⟨s,0,E⟩)] 90) (.cells #[I O k.t,I O k.se,I O k.wn] 146);have ab:=g.size;have r:=M m ab;have b8:=M aE ab;have b9:=M aF ab;have aa:=M S ab;have aW:=(g.cell (p:=⟨Bp,0,E⟩) aE).trans au;have aX:=(g.cell (p:=⟨Bn,0,E⟩) aF).trans av;have aY:=(g.cell (p:=⟨s,0,E⟩) m).trans aw;have aZ:=(g.cell (p:=⟨s,1,E⟩) m).trans ax;have b0:=(g.cell (p:=⟨s,2,E⟩) m).trans ay;have b1:=(g.cell (p:=⟨s,3,E⟩) m).trans az;have b4:=(g.cell (p:=⟨s,4,E⟩) m).trans aA;have b5:=(g.cell (p:=⟨s,5,E⟩) m).trans aB;have b6:=(g.cell (p:=⟨s,6,E⟩) m).trans aC;have b7:=(g.cell (p:=⟨w.1.size,0,E⟩) S).trans aD;have aN:=(g.cell (p:=⟨w.1.size,1,E⟩) S).trans a7;have aO:=(g.cell (p:=⟨w.1.size,2,E⟩) S).trans a8;have aS:=zd g;clear ab g au av aw ax ay az aA aB aC aD a7 a8)
    |(go_at_call 119;(first|refine(ud aT).mono ?_|refine(ud aI).mono ?_);rintro e V4 ⟨rfl,B⟩;have i:G ((V2.alloc (.cells #[.pointer (Q ⟨s,0,E⟩)] 90)).alloc (.cells #[I O k.t,I O k.se,I O k.wn] 146)).1.size ((V2.alloc (.cells #[.pointer (Q ⟨s,0,E⟩)] 90)).alloc (.cells #[I O k.t,I O k.se,I O k.wn] 146)) V4:=⟨B.os,B.tape,B.output,B.size,B.block⟩;have bs:=(i.cell (p:=⟨Bp,0,E⟩) b8).trans aW;have bt:=(i.cell (p:=⟨Bn,0,E⟩) b9).trans aX;have bu:=(i.cell (p:=⟨s,0,E⟩) r).trans aY;have bv:=(i.cell (p:=⟨s,1,E⟩) r).trans aZ;have bw:=(i.cell (p:=⟨s,2,E⟩) r).trans b0;have bx:=(i.cell (p:=⟨s,3,E⟩) r).trans b1;have bz:=(i.cell (p:=⟨s,4,E⟩) r).trans b4;have bA:=(i.cell (p:=⟨s,5,E⟩) r).trans b5;have bB:=(i.cell (p:=⟨s,6,E⟩) r).trans b6;have bC:=(i.cell (p:=⟨w.1.size,0,E⟩) aa).trans b7;have bq:=(i.cell (p:=⟨w.1.size,1,E⟩) aa).trans aN;have br:=(i.cell (p:=⟨w.1.size,2,E⟩) aa).trans aO;have bo:=zd i;clear B i))
   all_goals(go_wp2_with fail)
   all_goals go_ret
   all_goals(exact⟨rfl,((ud a0).trans ((ud aS).mono (ud a0).size)).trans ((ud bo).mono (zf (ud a0).size (ud aS).size))⟩)
  ·have hd:decide (u<=now)=false:=by simpa using bn
   rw[hd]
   clear af P
   have aM:Hid ((w.alloc (.cells #[I O k.t,I O k.se,I O k.wn] 146)).1.size=w.1.size+1):=zG w _
   go_enter func176,ntmps176
   go_wp2_with fail
   have r1:w.1.size<w.1.size+1:=by omega
   have r2:Bp<w.1.size+1:=by omega
   have r3:Bn<w.1.size+1:=by omega
   have r4:s<w.1.size+1:=by omega
   have H:Hid (w.1.size<=w.1.size+1):=by show w.1.size<=w.1.size+1;omega
   clear y ac ad J
   generalize(w.alloc (.cells #[I O k.t,I O k.se,I O k.wn] 146))=X at*
   generalize w.1.size+1=N at*
   have a1:Hid (N<=X.1.size):=by show N<=X.1.size;rw[ud aM];exact U _
   have aR:Nonempty (zj N X):=zj.some _ _
   have aQ:=fun(u:zj N X) b o h=>u.cell b o h
   refine ze N (by kernel_rfl) (by kernel_rfl) ?_
   repeat(go_big_quiet_step (first
    |(go_at_call 175;exact Calls.later (ud a1) (ud (D _ ((ud C).trans (Below.mono (Subtype.property _) (ud H))))))
    |(go_at_call 177;exact Calls.later (ud a1) (ud (Z _ ((ud C).trans (Below.mono (Subtype.property _) (ud H))))))))
   refine wpQuiet_nil ?_
   rintro⟨w1,j⟩
   clear aQ aR
   dsimp only
   go_wp2_with fail
   go_ret
   exact⟨rfl,(ud C).trans (j.mono (ud H))⟩
attribute [local go_sem] Oper.semAt_some
def inR(c:Cf)(s:Sg):Prop:=s.wf/\ -1<=s.t/\s.t<c.n/\0<=s.wn/\s.wn<=100000
abbrev RSg(c:Cf):={s:Sg//inR c s}
theorem zgn(c:Cf):inR c ⟨-1,0,0⟩:=⟨by refine⟨?_,?_,?_⟩<;>(unfold xR;simp),by simp,by show(-1:Int)<c.n;omega,by simp,by simp⟩
noncomputable def zcX (c:Cf) (s:Sg):RSg c:=by classical exact if h:inR c s then⟨s,h⟩else⟨⟨-1,0,0⟩,zgn c⟩
theorem yW{c:Cf}{s:Sg}(h:inR c s):(zcX c s).1=s:=by unfold zcX;rw[dif_pos h]
theorem vT{c:Cf}(g:c.ok){k:Sg}(a:inR c k)(x:Sg):x∈(kU c k).map (·.1)↔x∈yD c k:=by
 have d:0<=k.wn*c.wh k.t/\k.wn*c.wh k.t<=1000000000:=by
  obtain⟨l,f⟩:=g.wh a.2.1 a.2.2.1
  have m:=a.2.2.2
  constructor
  ·exact Int.mul_nonneg (by omega) (by omega)
  ·have:=Int.mul_le_mul (show k.wn<=100000 by omega) f (by omega) (by omega);omega
 have e:(kU c k).map (·.1)=yD c k:=by
  unfold kU yD
  rw[List.map_map,List.map_map]
  apply List.map_congr_left
  intro p h
  unfold YB at h
  obtain⟨i,j,rfl⟩:=List.mem_map.1 h
  have b:i<c.n:=by have:=(List.mem_filter.1 j).1;simpa using this
  simp only[Function.comp]
  rw[K7 a.1.2.1,JB (zdI g d b)]
 rw[e]
theorem zjY{X:R}{a:Nat}{b:List (Sg×Unit)}(h:xj vf X a b)(c:b.length<maxLen){s:Sg}(d:s.wf):
  ∃o,(Instr.mapUpdate 153 (.map (Q a)) (.agg #[I O s.t,I O s.se,I O s.wn]) (.agg #[])).run prog X=.ok () (setBlock X a o)/\xj vf (setBlock X a o) a (qI b s ())/\zk (fun k=>k=a) X (setBlock X a o)/\o.isCells=false:=
 jz Z3 h c d ()
theorem zjF(w:R)(a b c:Obj):(((w.alloc a).alloc b).alloc c).1[w.1.size]?=Q a/\(((w.alloc a).alloc b).alloc c).1[w.1.size+1]?=Q b/\(((w.alloc a).alloc b).alloc c).1[w.1.size+2]?=Q c/\G w.1.size w (((w.alloc a).alloc b).alloc c)/\(((w.alloc a).alloc b).alloc c).1.size=w.1.size+3:=by
 obtain⟨e,f,g,d⟩:=box2 w a b
 refine⟨(Below.heap_alloc _ _ _ (by rw[d];omega)).trans e,(Below.heap_alloc _ _ _ (by rw[d];omega)).trans f,?_,g.alloc (by rw[d];omega) _,by simp⟩
 have:=zr ((w.alloc a).alloc b) c
 rw[d]at this;exact this
theorem jv{n m b:Nat}{W c:R}(h:zk (fun k=>k=b) W c)(f:b<m):KX (fun k=>k=b) n m W c:=
 ⟨h.mono (fun k _ e=> .inl e),fun k o d a _=>h.heap a d,fun k o d _ a=>h.heap a (by omega)⟩
theorem Yl.deep{α:Type}{n n':Nat}{P:Program}{g:Nat}{lb:Array z9}{encs:α->Array z9}{Kp:R->R->Prop}{S c:List α->Prop}{N m:Nat}{w:R}(h:Yl Fence.wide n P g lb encs Kp S c N m w):Yl Fence.wide n' P g lb encs Kp S c N m w:=
 fun l J d W i o f a j e=>callsIn_wide.2 (callsIn_wide.1 (h l J d W i o f a (fun b x V hv k=>jE rfl (j b x V hv k)) e))
theorem Z6{B b:Nat}{W a:R}(h:zk (fun k=>k=b) W a)(d:b<B):KeepsFrom B W a:=⟨h.size,fun k o e c _=>h.heap c (by omega)⟩
theorem xl.kx{ex:Nat->Prop}{n m:Nat}{W a:R}{s:Nat}{c:Cf}{tv:z9}{lb gb:Nat}{Gl:List (Sg×Unit)}{L:LV}(h:xl W s c tv lb gb Gl L)(f:KX ex n m W a)(b:∀k,vy s tv lb gb k->k<n/\¬ex k):xl a s c tv lb gb Gl L:=
 h.kept f.kept (fun k d e=>by have:=b k d;exact e.elim this.2 (by omega))
theorem xl.foot_lt{W:R}{s:Nat}{c:Cf}{tv:z9}{lb gb:Nat}{Gl:List (Sg×Unit)}{L:LV}(h:xl W s c tv lb gb Gl L):∀k,vy s tv lb gb k->k<W.1.size:=fun k a=>by
 rcases a with rfl|a|rfl|rfl
 ·exact h.lt
 ·exact zeN h.trow k a
 ·exact h.live.lt
 ·exact h.gone.lt
theorem zer{ex:Nat->Prop}{n m c d:Nat}{V W:R}(h:KX ex c d V W)(hn:n<=c)(f:V.1.size<=c)(b:∀k,ex k->k<m):KX ex n m V W:=
 ⟨h.kept.mono (fun k _ e=>e.imp id (fun e=>by omega)),h.walk,fun k o g _ a=>(h.low (by have:=zb a;omega) (fun e=>by have:=b k e;omega) (zb a)).trans a⟩
theorem JU{w:R}{s:Nat}{c:Cf}{tv:z9}{lb gb:Nat}{Gl:List (Sg×Unit)}{L:LV}(h:xl w s c tv lb gb Gl L)(hc:c.ok)(hL:∀p∈L,inR c p.1)(bH:L.length<=2000):
  Calls prog 172 #[.pointer (Q ⟨s,0,E⟩)] w fun e w'=>∃ob C,e=.returned (.map (Q ob))/\xj vf w' ob C/\(∀x,x∈zo C↔∃k,k∈zl L/\(stL L k).st=2/\x∈yD c k)/\w.1.size<=ob/\G w.1.size w w':=by
 have bz:=h.lt
 obtain⟨y0,y1,y2,aw,yz⟩:=zjF w (.cells #[.pointer (Q ⟨s,0,E⟩)] 90) (.map #[] 0) (.cells #[.map (Q (w.1.size+1))] 153)
 obtain⟨-,-,-,-,-,-,-,c7,-⟩:=h.cells
 have ar:=fun W=>zd (KJ lb W)
 have av:=fun gf bE W=>zd (Yk gf bE 175 #[.pointer (Q ⟨s,0,E⟩)] #[] W)
 obtain⟨p0,-⟩:=zc y0
 have x7:=(aw.cell (p:=⟨s,7,E⟩) bz).trans c7
 have az:w.1.size<(((w.alloc (.cells #[.pointer (Q ⟨s,0,E⟩)] 90)).alloc (.map #[] 0)).alloc (.cells #[.map (Q (w.1.size+1))] 153)).1.size:=by rw[yz];omega
 have aB:s<(((w.alloc (.cells #[.pointer (Q ⟨s,0,E⟩)] 90)).alloc (.map #[] 0)).alloc (.cells #[.map (Q (w.1.size+1))] 153)).1.size:=by rw[yz];omega
 have H:=zd h
 have Y0:=zd y0
 have Y1:=zd y1
 have Y2:=zd y2
 have YZ:=zd yz
 have b5:=zd aw
 have HC:=zd hc
 have HL:=zd hL
 clear h y0 y1 y2 yz aw hc hL c7
 refine(callsIn_wide (n:=7)).1 ?_
 refine callsIn_of_wp_marks func172 rfl trivial ?_ rfl
 simp only[ntmps172,List.size_toArray,List.length_cons,List.length_nil,Nat.reduceAdd,Nat.reduceSub,Array.replicate_succ,Array.replicate_zero,List.push_toArray,List.append_toArray,List.nil_append,List.cons_append]
 refine wpIn_wide.2 ?_
 have bQ:= @run_makeMap prog
 go_wp2_with fail
 generalize(((w.alloc (.cells #[.pointer (Q ⟨s,0,E⟩)] 90)).alloc (.map #[] 0)).alloc (.cells #[.map (Q (w.1.size+1))] 153))=X at*
 go_region_held3 (fun w'=>w'.cell? ⟨w.1.size,0,E⟩=Q (.pointer (Q ⟨s,0,E⟩))/\w'.cell? ⟨s,7,E⟩=Q (.map (Q lb))) (go_keep) (first
  |(go_at_call 173;(first|refine(ud (ar X)).mono ?_|refine(ud (ar X.drew)).mono ?_);rintro e b ⟨rfl,ai⟩;have Y:G X.1.size X b:=(by rw[ai];first|exact(T _ _).alloc (U _) _|exact(T X.1.size X).drew.alloc (U _) _);have aW:b.1.size=X.1.size+1:=(by rw[ai];exact zG _ _);have aP:b.1[X.1.size]?=Q (.cells #[.map (Q lb)] 152 (0,0)):=(by rw[ai];exact zr _ _);have p1:=(Y.cell (p:=⟨w.1.size,0,E⟩) az).trans p0;have b0:=(Y.cell (p:=⟨s,7,E⟩) aB).trans x7;have an:=M az Y.size;have ao:=M aB Y.size;have af:=zd Y;have br:=zd aW;have bf:=zd aP;clear ai Y aW aP)
  |(go_at_call 124;(first|refine(ud (av _ _ b)).mono ?_|refine(ud (av _ _ b.drew)).mono ?_);rintro e a ⟨rfl,aN⟩;have ae:a.1[b.1.size]?=Q (.cells #[.func (.func 233) #[] #[.pointer (Q ⟨X.1.size,0,E⟩)]] 199 (0,0))/\a.1[b.1.size+1]?=Q (.cells #[.func (.func 175) #[.pointer (Q ⟨s,0,E⟩)] #[]] 206 (0,0))/\G b.1.size b a/\a.1.size=b.1.size+2:=(by rw[aN];first|exact box2 b _ _|exact(by obtain⟨a1,a2,a3,a4⟩:=box2 b.drew (.cells #[.func (.func 233) #[] #[.pointer (Q ⟨X.1.size,0,E⟩)]] 199) (.cells #[.func (.func 175) #[.pointer (Q ⟨s,0,E⟩)] #[]] 206);exact⟨a1,a2,⟨a3.os,a3.tape,a3.output,a3.size,a3.block⟩,a4⟩));obtain⟨ax,aO,aj,aX⟩:=ae;have p2:=(aj.cell (p:=⟨w.1.size,0,E⟩) an).trans p1;have bF:=(aj.cell (p:=⟨s,7,E⟩) ao).trans b0;have bh:=zd ax;have ba:=zd aO;have ag:=zd aj;have bs:=zd aX;clear aN ax aO aj aX))
 all_goals
  go_wp2_with fail
  have e0:X.1.size=w.1.size+3:=ud YZ
  have e1:b.1.size=w.1.size+4:=by rw[ud br,e0]
  have e2:a.1.size=w.1.size+6:=by rw[ud bs,e1]
  have j:G X.1.size X a:=(ud af).trans ((ud ag).mono (ud af).size)
  have ae:G w.1.size w a:=(ud b5).trans (j.mono (by omega))
  have f:=(ud H).later ae
  have ak:=(ud H).foot_lt
  have aM:=(j.block _ (by omega)).trans (ud Y0)
  have aK:=(j.block _ (by omega)).trans (ud Y1)
  have aL:=(j.block _ (by omega)).trans (ud Y2)
  have aS:=((ud ag).block _ (by omega)).trans (ud bf)
  have a7:xj vf a (w.1.size+1) []:=⟨#[],0,aK,⟨rfl,by simp,by simp,by simp,by simp[zo],by simp⟩⟩
  have aa:=zah (fun x:RSg c=>x.1) (zcX c) (ex:=fun k=>k=w.1.size+1) (n:=w.1.size+6) X.1.size lb L (fun p hp=>yW (ud HL p hp)) a (by have:=ak lb (.inr (.inr (.inl rfl)));omega) (by omega) (by rw[xd aS];rfl) (xO.1 f.live)
  have ab:=jj (fun x:RSg c=>x.1) 233 #[.pointer (Q ⟨X.1.size,0,E⟩)] zac 175 #[.pointer (Q ⟨s,0,E⟩)] #[] XM (fun x=>(stL L x.1).st==2) b.1.size (b.1.size+1) a (by omega) ⟨by omega,by omega⟩ ⟨by omega,by omega⟩ (ud bh) (ud ba)
   (fun x W ⟨m,Z⟩=>jy (f.kx Z (fun k hh=>by have:=ak k hh;constructor<;>omega)) x.1 x.2.1) aa
  have bp:=zd ab
  have bK:=zd e0
  have bL:=zd e1
  have i:=zd e2
  have aG:=zd f
  have bn:=zd aM
  have aD:=zd aL
  have bi:=zd a7
  have ah:=zd ak
  have bq:=zd ae
  have bb:=fun(x:RSg c) W=>zd (YM s x.1 W)
  clear aa ab e0 e1 e2 f aM aL aK a7 ak ae j aS p2 bF p1 b0 p0 x7 az aB an ao ar av
  refine(wpIn_wide (n:=7)).1 ?_
  refine yM (F:=Fence.wide) (n:=7) rfl (by omega) (gf:=194) (lb:=#[.pointer (Q ⟨b.1.size,0,E⟩),.pointer (Q ⟨b.1.size+1,0,E⟩)]) rfl trivial Yj (ud bp (a.1.size+2) (by omega)) (U _) (fun h k=>h.trans k) (fun W o o' h hc hw=>KX.putObj o' (by have:=ud i;omega) (by omega) h hw) (T _ _) (fun _=>rfl)
   (fun u W=>(∃C,xj vf W (w.1.size+1) C/\(∀x,x∈zo C↔∃k∈u,x∈yD c k.1)/\C.length<=4*u.length)/\KX (fun k=>k=w.1.size+1) (w.1.size+6) (a.1.size+2) a W)
   (fun _ _ _=>False)
   (fun s A B row hs hg hr=>⟨by obtain⟨C,S,b2⟩:=hs.1;exact⟨C,S.same (hg.block _ S.lt (fun e=>by have:=(hr _ e.symm).1;have:=ud i;omega)),b2⟩,KX.own (β:=Unit) (q:=a.1.size) (U _) () A B row hs.2 hg hr⟩)
   (fun _ _ _ _ _ hs _ _=>hs)
   ⟨⟨[],ud bi,fun x=>by simp[zo],by simp⟩,KX.refl _ _ _ _⟩
   (fun x a' W=>∃Bx,a.1.size<=Bx/\W.1[Bx]?=Q (.cells #[I O x.1.t,I O x.1.se,I O x.1.wn] 146 (0,0))/\a'={tmps:=#[.pointer (Q ⟨s,0,E⟩),.pointer (Q ⟨w.1.size,0,E⟩),.map E,.pointer (Q ⟨w.1.size+1+1,0,E⟩),.pointer (Q ⟨Bx,0,E⟩),undef,.map (Q (w.1.size+1)),.pointer (Q ⟨s,0,E⟩),.pointer (Q ⟨s,0,E⟩),.pointer (Q ⟨s,7,E⟩),.map (Q lb),.func (.func 233) #[] #[.pointer (Q ⟨X.1.size,0,E⟩)],.pointer (Q ⟨s,0,E⟩),.func (.func 175) #[.pointer (Q ⟨s,0,E⟩)] #[],.func (.func 194) #[] #[.pointer (Q ⟨b.1.size,0,E⟩),.pointer (Q ⟨b.1.size+1,0,E⟩)],.agg #[I O x.1.t,I O x.1.se,I O x.1.wn],undef,undef,undef,undef,undef,undef,undef,undef],defers:=[]})
   (fun x a' s A B row hs hg hr=>by
    obtain⟨Bx,h1,h2,h3⟩:=hs
    exact⟨Bx,h1,zI h2 hg (fun r e=>(hr r e).2),h3⟩) ?assign ?body ?done ?stop
  case assign=>
   rintro l u x W K ⟨⟨C,S,b2⟩,i2⟩ hK
   have HK:=zd hK
   have aY:=i2.kept.size
   clear hK
   gi_wp2
   have d:=(T W.1.size W).alloc (U _) (.cells #[I O x.1.t,I O x.1.se,I O x.1.wn] 146)
   refine ud HK _ _ (zw d) (KX.of_below d) ⟨⟨C,S.later d,b2⟩,i2.trans (KX.of_below d)⟩ ⟨W.1.size,aY,zr _ _,rfl⟩
  case body=>
   rintro l u x a' W hl ⟨r,hr⟩ ⟨⟨C,S,b2,b3⟩,i2⟩ ⟨Bx,aJ,hx,rfl⟩ bP
   have aY:=i2.kept.size
   have e2:a.1.size=w.1.size+6:=ud i
   have aA:=xV i2 (ud bn) (by omega) (by omega)
   have a0:=xV i2 (ud aD) (by omega) (by omega)
   have ac:=(ud aG).kx i2 (fun k hh=>by have:=ud ah k hh;constructor<;>omega)
   obtain⟨sc,-⟩:=zc aA
   obtain⟨bB,bC,bD,-⟩:=zc hx
   have bN:=zb hx
   have bR:=zb aA
   obtain⟨v0,v1,vb,vz⟩:=box2 W (.cells #[.pointer (Q ⟨s,0,E⟩)] 90) (.cells #[I O x.1.t,I O x.1.se,I O x.1.wn] 146)
   have bx:=zb hr
   have aE:=zd ((vb.block l bx).trans hr)
   have aH:=zd v0
   have aI:=zd v1
   have N:=zd vb
   have a6:=zd vz
   have bl:=zd a0
   have aF:=zd ac
   have bd:=zd i2
   have b7:=zd S
   have b6:=zd b2
   have b8:=zd b3
   have bc:=bb x W
   have bO:u.length<2000:=by omega
   have bG:=aJ
   clear v0 v1 vb vz aA a0 ac i2 S b2 b3 hx hr e2 aJ
   gi_wp2_with (first|(refine⟨trivial,?_⟩;gi_at_call 178;refine(CallsIn.inRound l (callsIn_wide.2 (ud bc))).mono ?_;rintro e V ⟨rfl,hV⟩;rw[<-hV]at aE aH aI N a6;clear hV)|gi_in)
   have e2:a.1.size=w.1.size+6:=ud i
   have vz:V.1.size=W.1.size+2:=ud a6
   have ad:=(ud aF).later (ud N)
   have a8:=(ud b7).later (ud N)
   have aU:=((ud N).block _ (by omega)).trans (ud bl)
   have a9:=zbq (ex:=fun k=>k=w.1.size+1) (n:=V.1.size) W.1.size (W.1.size+1) s x.1 c (ud HC) tv lb gb x.2.2.1 x.2.2.2.1 x.2.2.2.2 x.2.1.2.1 V (U _) ⟨ud aH,ud aI,ad.hd⟩ ⟨by omega,by omega⟩ ⟨by omega,by omega⟩ ⟨by have:=ud ah s (.inl rfl);omega,by have:=ud ah s (.inl rfl);omega⟩ (fun g hg=>by have:=ud ah g (.inr (.inl hg));constructor<;>omega)
   have bo:=zd a9
   have bk:=zd a8
   have bm:=zd aU
   clear a9 ad a8 aU vz e2 sc bB bC bD
   refine zhc (F:=Fence.wide.inRound l) (n:=5) (l₀:=l) (r₀:=r) rfl (ud aE) (by omega) (gf:=235) (lb:=#[.pointer (Q ⟨W.1.size,0,E⟩),.pointer (Q ⟨W.1.size+1,0,E⟩)]) rfl trivial Qv (((ud bo (V.1.size+1) (by omega)).deep (n':=4)).inRound l) (U _) (fun h k=>h.trans k) (fun W o o' h hc hw=>KX.putObj o' (U _) (by omega) h hw) (T _ _) (fun _=>rfl)
    (fun v P=>(∃J,xj vf P (w.1.size+1) J/\(∀y,y∈zo J↔(∃k∈u,y∈yD c k.1)\/y∈v.map (fun z:WSg=>z.1))/\J.length<=4*u.length+v.length)/\KX (fun k=>k=w.1.size+1) V.1.size (V.1.size+1) V P)
    (fun _ _ _=>False)
    (fun s A B row hs hg hr=>⟨by obtain⟨C,S,b2⟩:=hs.1;exact⟨C,S.same (hg.block _ S.lt (fun e=>by have:=(hr _ e.symm).1;have:=ud i;have:=ud a6;omega)),b2⟩,KX.own (β:=Unit) (q:=V.1.size) (U _) () A B row hs.2 hg hr⟩)
    (fun _ _ _ _ _ hs _ _=>hs)
    ⟨⟨C,ud bk,fun y=>by rw[ud b6 y];simp,by simpa using ud b8⟩,KX.refl _ _ _ _⟩
    (fun y a' P=>∃By,V.1.size<=By/\P.1[By]?=Q (.cells #[I O y.1.t,I O y.1.se,I O y.1.wn] 146 (0,0))/\a'={tmps:=#[.pointer (Q ⟨s,0,E⟩),.pointer (Q ⟨w.1.size,0,E⟩),.map E,.pointer (Q ⟨w.1.size+1+1,0,E⟩),.pointer (Q ⟨Bx,0,E⟩),.pointer (Q ⟨By,0,E⟩),.map (Q (w.1.size+1)),.pointer (Q ⟨s,0,E⟩),.pointer (Q ⟨s,0,E⟩),.pointer (Q ⟨s,7,E⟩),.map (Q lb),.func (.func 233) #[] #[.pointer (Q ⟨X.1.size,0,E⟩)],.pointer (Q ⟨s,0,E⟩),.func (.func 175) #[.pointer (Q ⟨s,0,E⟩)] #[],.func (.func 194) #[] #[.pointer (Q ⟨b.1.size,0,E⟩),.pointer (Q ⟨b.1.size+1,0,E⟩)],.agg #[I O x.1.t,I O x.1.se,I O x.1.wn],.pointer (Q ⟨s,0,E⟩),.agg #[I O x.1.t,I O x.1.se,I O x.1.wn],.func (.func 235) #[] #[.pointer (Q ⟨W.1.size,0,E⟩),.pointer (Q ⟨W.1.size+1,0,E⟩)],.agg #[I O y.1.t,I O y.1.se,I O y.1.wn],undef,undef,undef,undef],defers:=[]})
    (fun y a' s A B row hs hg hr=>by
     obtain⟨By,h1,h2,h3⟩:=hs
     exact⟨By,h1,zI h2 hg (fun r e=>(hr r e).2),h3⟩) ?assign2 ?body2 ?done2 ?stop2
   case assign2=>
    rintro l2 v y P K ⟨⟨J,d1,d2⟩,j2⟩ hK
    have HK:=zd hK
    have aZ:=j2.kept.size
    clear hK
    gi_wp2
    have d:=(T P.1.size P).alloc (U _) (.cells #[I O y.1.t,I O y.1.se,I O y.1.wn] 146)
    refine ud HK _ _ (zw d) (KX.of_below d) ⟨⟨J,d1.later d,d2⟩,j2.trans (KX.of_below d)⟩ ⟨P.1.size,aZ,zr _ _,rfl⟩
   case body2=>
    rintro l2 v y a' P ax _ ⟨⟨J,d1,d2,d3⟩,j2⟩ ⟨By,bM,hy,rfl⟩ bI
    have bu:=(ud HC).n4
    have e2:a.1.size=w.1.size+6:=ud i
    have vz:V.1.size=W.1.size+2:=ud a6
    have ay:=xV j2 (ud bm) (by omega) (by omega)
    obtain⟨oc,-⟩:=zc ay
    obtain⟨bT,bU,bV,-⟩:=zc hy
    have bS:=zb hy
    have bv:=zb ay
    obtain⟨o,bJ,aT,aQ,ho⟩:=zjY d1 (by simp only[maxLen];omega) y.2
    have aV:w.1.size+1<V.1.size:=by omega
    have bj:=zd aT
    have au:=zd aQ
    have be:=zd j2
    have ap:=zd d2
    have aq:=zd d3
    clear ay aT aQ j2 d1 d2 d3 hy vz e2
    gi_wp2
    refine⟨Z6 (ud au) aV,jv (ud au) (by omega),⟨_,ud bj,fun z=>?_,?_⟩,(ud be).trans (jv (ud au) (by omega))⟩
    ·rw[xg,ud ap z,List.map_append,List.mem_append];simp[or_assoc]
    ·rw[kw];have:=ud aq;simp only[List.length_append,List.length_cons,List.length_nil];split<;>omega
   case done2=>
    rintro xs P hS ⟨⟨J,d1,d2,d3⟩,j2⟩
    subst hS
    have bu:=(ud HC).n4
    have bA:=VK c x.1
    have e2:a.1.size=w.1.size+6:=ud i
    have vz:V.1.size=W.1.size+2:=ud a6
    have aR:KX (fun k=>k=w.1.size+1) (w.1.size+6) (a.1.size+2) V P:=zer j2 (by omega) (U _) (fun k e=>by omega)
    have al:KX (fun k=>k=w.1.size+1) (w.1.size+6) a.1.size V P:=zer j2 (by omega) (U _) (fun k e=>by omega)
    have aC:=zd aR
    have bg:=zd ((zw (B:=a.1.size) (ud N)).trans (al.from (U _)))
    have b9:=zd d1
    have ap:=zd d2
    have aq:=zd d3
    clear aR al d1 d2 d3 j2 vz e2
    gi_wp2
    refine⟨ud bg,(KX.of_below (ud N)).trans (ud aC),⟨_,ud b9,fun z=>?_,?_⟩,(ud bd).trans ((KX.of_below (ud N)).trans (ud aC))⟩
    ·rw[ud ap z]
     have:=vT (ud HC) x.2 z
     unfold kU at this
     rw[this]
     constructor
     ·rintro(⟨k,Z,hz⟩|hz)
      ·exact⟨k,List.mem_append_left _ Z,hz⟩
      ·exact⟨x,by simp,hz⟩
     ·rintro⟨k,Z,hz⟩
      rcases List.mem_append.1 Z with Z|Z
      ·exact .inl ⟨k,Z,hz⟩
      ·simp at Z;subst Z;exact .inr hz
    ·have:=ud aq
     unfold kU at bA
     simp only[List.length_append,List.length_cons,List.length_nil]
     omega
   case stop2=>
    rintro cc v P _ hh
    exact hh.elim
  case done=>
   rintro D xs W hD ⟨zs,⟨ps,hp,rfl⟩,rfl⟩ ⟨⟨C,S,b2,b3⟩,i2⟩ hK
   have e2:a.1.size=w.1.size+6:=ud i
   have a0:=xV i2 (ud aD) (by omega) (by omega)
   obtain⟨oc,-⟩:=zc a0
   have bv:=zb a0
   have bt:D≠w.1.size+1:=by omega
   have af:=zd (xj.same S (World.putObj_heap_other (o:=.deferred E) (w:=W) (fun e=>bt e.symm)))
   have ag:=zd b2
   have b4:Hid (G w.1.size w (W.putObj D (.deferred E))):=by
    have Z:G w.1.size a W:=⟨i2.kept.os,i2.kept.tape,i2.kept.output,i2.kept.size,fun k Z=>i2.low (by omega) (by omega) (by omega)⟩
    exact xE ((ud bq).trans Z) (U _) (by omega) hK _
   clear a0 i2 S b2 b3 e2
   gi_wp2
   go_wp2_with fail
   refine⟨by simp,.inl ⟨_,_,rfl,run_takeDeferred hK,?_⟩⟩
   refine⟨_,results_tmp rfl _ _ _,w.1.size+1,C,rfl,ud af,fun z=>?_,Nat.le_succ _,ud b4⟩
   rw[ud ag z]
   have am:∀k:Sg,(∃q∈(ps.map (fun p:Sg×SV=>zcX c p.1)).filter (fun q=>(stL L q.1).st==2),q.1=k)↔k∈zl L/\(stL L k).st=2:=fun k=>by
    constructor
    ·rintro⟨q,hq,rfl⟩
     obtain⟨h1,h2⟩:=List.mem_filter.1 hq
     obtain⟨p,bw,rfl⟩:=List.mem_map.1 h1
     have a5:=hp.mem_iff.1 bw
     rw[yW (ud HL p a5)]at h2 ⊢
     exact⟨List.mem_map.2 ⟨p,a5,rfl⟩,by simpa using h2⟩
    ·rintro⟨h1,h2⟩
     obtain⟨p,a5,rfl⟩:=List.mem_map.1 (show k∈L.map (·.1)from h1)
     refine⟨zcX c p.1,List.mem_filter.2 ⟨List.mem_map.2 ⟨p,hp.mem_iff.2 a5,rfl⟩,?_⟩,yW (ud HL p a5)⟩
     rw[yW (ud HL p a5)];simpa using h2
   constructor
   ·rintro⟨q,hq,hz⟩
    obtain⟨a1,a2⟩:=(am q.1).1 ⟨q,hq,rfl⟩
    exact⟨q.1,a1,a2,hz⟩
   ·rintro⟨k,a1,a2,hz⟩
    obtain⟨q,hq,rfl⟩:=(am k).2 ⟨a1,a2⟩
    exact⟨q,hq,hz⟩
  case stop=>
   rintro D c u W _ _ h _
   exact h.elim
theorem zdk:∀args w,(callFunc 174 args).run prog w=.ok (.enter 174 args) w:=enters_of func174 (by kernel_rfl) rfl
theorem zdc:∀args w,(callFunc 176 args).run prog w=.ok (.enter 176 args) w:=enters_of func176 (by kernel_rfl) rfl
theorem Jh{α:Type}{F:Fence}{n:Nat}{P:Program}{g:Nat}{lb:Array z9}{encs:α->Array z9}{Kp:R->R->Prop}{S S' d:List α->Prop}{N m:Nat}{w:R}(h:Yl F n P g lb encs Kp S d N m w)(s:∀xs,S xs->S' xs):Yl F n P g lb encs Kp S' d N m w:=
 fun l J f W p r o c q i=>(h l J f W p r o c q i).mono fun e V ⟨j,k⟩=>⟨j,k.imp (fun⟨xs,a,b⟩=>⟨xs,s xs a,b⟩) id⟩
theorem kC{w:R}{s:Nat}{c:Cf}{tv:z9}{lb gb:Nat}{Gl:List (Sg×Unit)}{L:LV}(h:xl w s c tv lb gb Gl L)(hc:c.ok)(hL:∀p∈L,inR c p.1)(now:Int)(j:0<=now/\now<=100000):
  Calls prog 114 #[.pointer (Q ⟨s,0,E⟩),I O now] w fun e w'=>∃Bl Bh,e=.returned (.func (.func 194) #[] #[.pointer (Q ⟨Bl,0,E⟩),.pointer (Q ⟨Bh,0,E⟩)])/\G w.1.size w w'/\
   ∀ex:Nat->Prop,(∀k,ex k->k<w.1.size/\¬vy s tv lb gb k)->jW ex w'.1.size prog 194 #[.pointer (Q ⟨Bl,0,E⟩),.pointer (Q ⟨Bh,0,E⟩)] (fun x:RSg c=>#[.agg #[I O x.1.t,I O x.1.se,I O x.1.wn]]) (fun ys=>∃ps:LV,ps.Perm L/\ys=(ps.map (fun p:Sg×SV=>zcX c p.1)).filter (fun x=>kI c L now x.1)) L.length w':=by
 have a5:=h.lt
 obtain⟨y0,y1,o,A⟩:=box2 w (.cells #[.pointer (Q ⟨s,0,E⟩)] 90) (.cells #[I O now] 3)
 obtain⟨-,-,-,-,-,-,-,c7,-⟩:=h.cells
 have C:=zd (KJ lb ((w.alloc (.cells #[.pointer (Q ⟨s,0,E⟩)] 90)).alloc (.cells #[I O now] 3)))
 obtain⟨p0,-⟩:=zc y0
 have x7:=(o.cell (p:=⟨s,7,E⟩) a5).trans c7
 have a6:w.1.size<((w.alloc (.cells #[.pointer (Q ⟨s,0,E⟩)] 90)).alloc (.cells #[I O now] 3)).1.size:=by rw[A];omega
 have a7:s<((w.alloc (.cells #[.pointer (Q ⟨s,0,E⟩)] 90)).alloc (.cells #[I O now] 3)).1.size:=by rw[A];omega
 have H:=zd h
 have Y0:=zd y0
 have Y1:=zd y1
 have YZ:=zd A
 have B:=zd o
 have HC:=zd hc
 have HL:=zd hL
 have F:=zd j
 clear h y0 y1 A o hc hL c7 j
 go_enter func114,ntmps114
 go_wp2_with fail
 generalize((w.alloc (.cells #[.pointer (Q ⟨s,0,E⟩)] 90)).alloc (.cells #[I O now] 3))=X at*
 refine(ud C).mono ?_
 rintro e b ⟨rfl,g⟩
 have v:G X.1.size X b:=by rw[g];exact(T _ _).alloc (U _) _
 have K:Hid (b.1.size=X.1.size+1):=by show b.1.size=_;rw[g];exact zG _ _
 have D:Hid (b.1[X.1.size]?=Q (.cells #[.map (Q lb)] 152 (0,0))):=by show b.1[X.1.size]?=_;rw[g];exact zr _ _
 have r:=zd v
 have J:=zd (Yk 233 #[.pointer (Q ⟨X.1.size,0,E⟩)] 176 #[] #[.pointer (Q ⟨w.1.size,0,E⟩),.pointer (Q ⟨w.1.size+1,0,E⟩)] b)
 clear g v p0 x7
 go_wp2_with fail
 refine(ud J).mono ?_
 rintro e i ⟨rfl,u⟩
 obtain⟨N,P,a3,a4⟩:=box2 b (.cells #[.func (.func 233) #[] #[.pointer (Q ⟨X.1.size,0,E⟩)]] 199) (.cells #[.func (.func 176) #[] #[.pointer (Q ⟨w.1.size,0,E⟩),.pointer (Q ⟨w.1.size+1,0,E⟩)]] 206)
 rw[<-u]at N P a3 a4
 have A1:=zd N
 have A2:=zd P
 have A3:=zd a3
 have A4:=zd a4
 clear u N P a3 a4
 go_wp2_with fail
 go_ret
 have e0:X.1.size=w.1.size+2:=ud YZ
 have e1:b.1.size=X.1.size+1:=ud K
 have e2:i.1.size=b.1.size+2:=ud A4
 have d:G X.1.size X i:=(ud r).trans ((ud A3).mono (ud r).size)
 have z:G w.1.size w i:=(ud B).trans (d.mono (by omega))
 refine⟨b.1.size,b.1.size+1,rfl,z,fun ex y=>?_⟩
 have l:=(ud H).later z
 have S:=(ud H).foot_lt
 have a:∀k,w.1.size<=k->¬ex k:=fun k q e=>by have:=(y k e).1;omega
 have f:∀k,vy s tv lb gb k->k<i.1.size/\¬ex k:=fun k q=>⟨by have:=S k q;omega,fun e=>(y k e).2 q⟩
 have V:=((ud A3).block _ (by omega)).trans (ud D)
 have a0:=(d.block _ (by omega)).trans (ud Y0)
 have Y:=(d.block _ (by omega)).trans (ud Y1)
 have hW:=jj (fun x:RSg c=>x.1) _ _ zac _ #[] _ zdc (ex:=ex) (n:=i.1.size) (fun x=>kI c L now x.1) b.1.size (b.1.size+1) i (U _) ⟨by omega,a _ (by omega)⟩ ⟨by omega,a _ (by omega)⟩ (ud A1) (ud A2)
  (fun x W ⟨m,q⟩=>by
   have q0:=xV q a0 (by omega) (a _ (by omega))
   have q1:=xV q Y (by omega) (a _ (by omega))
   exact XT (l.kx q f) (ud HC) x.1 x.2.1 x.2.2.1 x.2.2.2.1 x.2.2.2.2 now (ud F) w.1.size (w.1.size+1) (by rw[xd q0];rfl) (by rw[xd q1];rfl) (zb q0) (zb q1))
  (zah (fun x:RSg c=>x.1) (zcX c) (ex:=ex) (n:=i.1.size) X.1.size lb L (fun p Z=>yW (ud HL p Z)) i (f lb (.inr (.inr (.inl rfl)))).2 (by omega) (by rw[xd V];rfl) (xO.1 l.live))
 exact fun m hm=>Jh (hW m hm) (fun ys ⟨xs,⟨ps,Z,e1⟩,e2⟩=>⟨ps,Z,by rw[e2,e1]⟩)
theorem Jf{w:R}{s:Nat}{c:Cf}{tv:z9}{lb gb:Nat}{Gl:List (Sg×Unit)}{L:LV}(h:xl w s c tv lb gb Gl L)(hc:c.ok)(hL:∀p∈L,inR c p.1)(V:L.length<=2000)(now:Int)(v:0<=now/\now<=100000):
  Calls prog 112 #[.pointer (Q ⟨s,0,E⟩),I O now] w fun e w'=>∃Bl Bh J,e=.returned (.func (.func 194) #[] #[.pointer (Q ⟨Bl,0,E⟩),.pointer (Q ⟨Bh,0,E⟩)])/\G w.1.size w w'/\(∀x,x∈zo J↔∃k,k∈zl L/\(stL L k).st=2/\x∈yD c k)/\
   ∀ex:Nat->Prop,(∀k,ex k->k<w.1.size/\¬vy s tv lb gb k)->jW ex w'.1.size prog 194 #[.pointer (Q ⟨Bl,0,E⟩),.pointer (Q ⟨Bh,0,E⟩)] (fun x:RSg c=>#[.agg #[I O x.1.t,I O x.1.se,I O x.1.wn]]) (fun ys=>∃ps:LV,ps.Perm L/\ys=(ps.map (fun p:Sg×SV=>zcX c p.1)).filter (fun x=>kJ c J L now x.1)) L.length w':=by
 have ap:=h.lt
 obtain⟨y0,y1,r,yz⟩:=box2 w (.cells #[.pointer (Q ⟨s,0,E⟩)] 90) (.cells #[I O now] 3)
 obtain⟨-,-,-,-,-,-,-,c7,-⟩:=h.cells
 have a8:=zd (JU (h.later r) hc hL V)
 obtain⟨p0,-⟩:=zc y0
 have x7:=(r.cell (p:=⟨s,7,E⟩) ap).trans c7
 have D:w.1.size<((w.alloc (.cells #[.pointer (Q ⟨s,0,E⟩)] 90)).alloc (.cells #[I O now] 3)).1.size:=by rw[yz];omega
 have F:s<((w.alloc (.cells #[.pointer (Q ⟨s,0,E⟩)] 90)).alloc (.cells #[I O now] 3)).1.size:=by rw[yz];omega
 have H:=zd h
 have Y0:=zd y0
 have Y1:=zd y1
 have YZ:=zd yz
 have a9:=zd r
 have HC:=zd hc
 have HL:=zd hL
 have ac:=zd v
 clear h y0 y1 yz r hc hL c7 v
 go_enter func112,ntmps112
 go_wp2_with fail
 generalize((w.alloc (.cells #[.pointer (Q ⟨s,0,E⟩)] 90)).alloc (.cells #[I O now] 3))=X at*
 refine(ud a8).mono ?_
 rintro e f ⟨ob,J,rfl,Y,A,B,q⟩
 have bb:=zr f (.cells #[.map (Q ob)] 153)
 have hbb:G f.1.size f (f.alloc (.cells #[.map (Q ob)] 153)):=(T _ _).alloc (U _) _
 have a5:=zG f (.cells #[.map (Q ob)] 153)
 have a:=q.trans (hbb.mono q.size)
 have p1:=(a.cell (p:=⟨w.1.size,0,E⟩) D).trans p0
 have aq:=(a.cell (p:=⟨s,7,E⟩) F).trans x7
 have y:=Y.later hbb
 have au:=M D a.size
 have av:=M F a.size
 have a7:=zd bb
 have aj:=zd a5
 have a6:=zd a
 have ad:=zd y
 have ae:=zd A
 have af:=zd B
 have ah:=zd q.size
 have aa:=zd (KJ lb (f.alloc (.cells #[.map (Q ob)] 153)))
 clear bb hbb a5 a Y y A B q p0 x7 D F
 go_wp2_with fail
 generalize(f.alloc (.cells #[.map (Q ob)] 153))=Z at*
 refine(ud aa).mono ?_
 rintro e d ⟨rfl,o⟩
 have P:G Z.1.size Z d:=by rw[o];exact(T _ _).alloc (U _) _
 have ai:Hid (d.1.size=Z.1.size+1):=by show d.1.size=_;rw[o];exact zG _ _
 have ab:Hid (d.1[Z.1.size]?=Q (.cells #[.map (Q lb)] 152 (0,0))):=by show d.1[Z.1.size]?=_;rw[o];exact zr _ _
 have K:=zd P
 have ag:=zd (Yk 233 #[.pointer (Q ⟨Z.1.size,0,E⟩)] 174 #[] #[.pointer (Q ⟨f.1.size,0,E⟩),.pointer (Q ⟨w.1.size,0,E⟩),.pointer (Q ⟨w.1.size+1,0,E⟩)] d)
 clear o P p1 aq
 go_wp2_with fail
 refine(ud ag).mono ?_
 rintro e l ⟨rfl,N⟩
 obtain⟨a1,a2,a3,a4⟩:=box2 d (.cells #[.func (.func 233) #[] #[.pointer (Q ⟨Z.1.size,0,E⟩)]] 199) (.cells #[.func (.func 174) #[] #[.pointer (Q ⟨f.1.size,0,E⟩),.pointer (Q ⟨w.1.size,0,E⟩),.pointer (Q ⟨w.1.size+1,0,E⟩)]] 206)
 rw[<-N]at a1 a2 a3 a4
 have A1:=zd a1
 have A2:=zd a2
 have A3:=zd a3
 have A4:=zd a4
 clear N a1 a2 a3 a4
 go_wp2_with fail
 go_ret
 have e0:X.1.size=w.1.size+2:=ud YZ
 have ez:Z.1.size=f.1.size+1:=ud aj
 have e1:d.1.size=Z.1.size+1:=ud ai
 have eX:X.1.size<=f.1.size:=ud ah
 have eo:=ud af
 have e2:l.1.size=d.1.size+2:=ud A4
 have i:G Z.1.size Z l:=(ud K).trans ((ud A3).mono (ud K).size)
 have g:G X.1.size X l:=(ud a6).trans (i.mono (by omega))
 have a0:G w.1.size w l:=(ud a9).trans (g.mono (by omega))
 refine⟨d.1.size,d.1.size+1,J,rfl,a0,ud ae,fun ex S=>?_⟩
 have C:=(ud H).later a0
 have al:=(ud H).foot_lt
 have b:∀k,w.1.size<=k->¬ex k:=fun k u e=>by have:=(S k e).1;omega
 have j:∀k,vy s tv lb gb k->k<l.1.size/\¬ex k:=fun k u=>⟨by have:=al k u;omega,fun e=>(S k e).2 u⟩
 have am:=((ud A3).block _ (by omega)).trans (ud ab)
 have z:=(ud ad).later i
 have ak:=(i.block _ (by omega)).trans (ud a7)
 have ar:=z.lt
 have ao:=(g.block _ (by omega)).trans (ud Y0)
 have an:=(g.block _ (by omega)).trans (ud Y1)
 have hW:=jj (fun x:RSg c=>x.1) _ _ zac _ #[] _ zdk (ex:=ex) (n:=l.1.size) (fun x=>kJ c J L now x.1) d.1.size (d.1.size+1) l (U _) ⟨by omega,b _ (by omega)⟩ ⟨by omega,b _ (by omega)⟩ (ud A1) (ud A2)
  (fun x W ⟨m,u⟩=>by
   have q0:=xV u ao (by omega) (b _ (by omega))
   have q1:=xV u an (by omega) (b _ (by omega))
   have q2:=xV u ak (by omega) (b _ (by omega))
   exact Vb (C.kx u j) (ud HC) (xj.kept z u.kept (fun e=>e.elim (b _ (by omega)) (by omega))) x.1 x.2.1 x.2.2.1 x.2.2.2.1 x.2.2.2.2 now (ud ac) f.1.size w.1.size (w.1.size+1) (by rw[xd q2];rfl) (by rw[xd q0];rfl) (by rw[xd q1];rfl) (zb q2) (zb q0) (zb q1))
  (zah (fun x:RSg c=>x.1) (zcX c) (ex:=ex) (n:=l.1.size) Z.1.size lb L (fun p hp=>yW (ud HL p hp)) l (j lb (.inr (.inr (.inl rfl)))).2 (by omega) (by rw[xd am];rfl) (xO.1 C.live))
 exact fun m hm=>Jh (hW m hm) (fun ys ⟨xs,⟨ps,hp,e1⟩,e2⟩=>⟨ps,hp,by rw[e2,e1]⟩)
theorem jL(s:Sg)(w:R):(method 518 195 (.agg #[I O s.t,I O s.se,I O s.wn]) "Kind").run prog w=.ok (334,.agg #[I O s.t,I O s.se,I O s.wn]) w:=by kernel_rfl
theorem vk(s:Sg)(w:R):(method 518 195 (.agg #[I O s.t,I O s.se,I O s.wn]) "Segment").run prog w=.ok (335,.agg #[I O s.t,I O s.se,I O s.wn]) w:=by kernel_rfl
theorem kind_Roll(s:Sg)(w:R):Calls prog 334 #[.agg #[I O s.t,I O s.se,I O s.wn]] w fun e w'=>e=.returned (I O 1)/\G w.1.size w w':=by
 go_enter func334,ntmps334
 go_wp2_with fail
 go_ret
 exact⟨rfl,(T _ _).alloc (U _) _⟩
theorem segm_Roll(s:Sg)(w:R):Calls prog 335 #[.agg #[I O s.t,I O s.se,I O s.wn]] w fun e w'=>e=.returned (.agg #[I O s.t,I O s.se,I O s.wn])/\G w.1.size w w':=by
 obtain⟨c,b,a,d⟩:=box2 w (.cells #[I O s.t,I O s.se,I O s.wn] 195) (.cells #[I O s.t,I O s.se,I O s.wn] 146)
 go_enter func335,ntmps335
 go_wp2_with fail
 refine bodyPost_ret (v:=.agg #[I O s.t,I O s.se,I O s.wn]) (results_cell_row results335 _ _ (w.1.size+1) _ _ _ _ rfl b underlying146 rfl (by kernel_rfl)) rfl ?_
 exact⟨rfl,a⟩
theorem keyOf_Roll(s:Sg)(w:R):Calls prog 102 #[.iface 195 (.agg #[I O s.t,I O s.se,I O s.wn])] w fun e w'=>e=.returned (.agg #[I O 1,I O s.t,I O s.se,I O s.wn])/\G w.1.size w w':=by
 have b0:=zr w (.cells #[I O 0,I O 0,I O 0,I O 0] 162)
 have m:=zG w (.cells #[I O 0,I O 0,I O 0,I O 0] 162)
 have g:G w.1.size w (w.alloc (.cells #[I O 0,I O 0,I O 0,I O 0] 162)):=(T _ _).alloc (U _) _
 have p:=fun W=>zd (kind_Roll s W)
 have q:=fun W=>zd (segm_Roll s W)
 have B0:=zd b0
 have n:=zd m
 have h:=zd g
 clear b0 m g
 have x:=jL s
 have y:=vk s
 go_enter func102,ntmps102
 go_wp2_with(first
  |(go_at_call 334;refine(ud (p _)).mono ?_;rintro e z ⟨rfl,a⟩;have c:=zd a;clear a)
  |(go_at_call 335;refine(ud (q _)).mono ?_;rintro e A ⟨rfl,b⟩;have d:w.1.size<(w.alloc (.cells #[I O 0,I O 0,I O 0,I O 0] 162)).1.size:=(by rw[ud n];omega);have f:=(b.block w.1.size (M d (ud c).size)).trans (((ud c).block w.1.size d).trans (ud B0));obtain⟨B,C,D,F,-⟩:=zc f;have H:=fun j=>zH f j;have u:=zb f;have o:=zd f;have k:=zd b;clear b f d))
 have r:=xi (i:=3) (xi (i:=2) (xi (i:=1) (xi (i:=0) (ud o) (I O 1)) (I O s.t)) (I O s.se)) (I O s.wn)
 refine bodyPost_ret (v:=.agg #[I O 1,I O s.t,I O s.se,I O s.wn]) (results_cell_row results102 _ _ w.1.size _ _ _ _ rfl r underlying162 rfl (by kernel_rfl)) rfl ?_
 have l:=ud h
 have a:=ud c
 have b:=ud k
 exact⟨rfl,(l.trans (a.mono l.size)).trans ((b.mono (zf l.size a.size)).trans (below4 (U _) _ _ _ _))⟩
theorem vj(s:Sg)(w:R):(method 518 197 (.agg #[I O s.t,I O s.se,I O s.wn]) "Kind").run prog w=.ok (337,.agg #[I O s.t,I O s.se,I O s.wn]) w:=by kernel_rfl
theorem yP(s:Sg)(w:R):(method 518 197 (.agg #[I O s.t,I O s.se,I O s.wn]) "Segment").run prog w=.ok (338,.agg #[I O s.t,I O s.se,I O s.wn]) w:=by kernel_rfl
theorem kind_Reclaim(s:Sg)(w:R):Calls prog 337 #[.agg #[I O s.t,I O s.se,I O s.wn]] w fun e w'=>e=.returned (I O 2)/\G w.1.size w w':=by
 go_enter func337,ntmps337
 go_wp2_with fail
 go_ret
 exact⟨rfl,(T _ _).alloc (U _) _⟩
theorem segm_Reclaim(s:Sg)(w:R):Calls prog 338 #[.agg #[I O s.t,I O s.se,I O s.wn]] w fun e w'=>e=.returned (.agg #[I O s.t,I O s.se,I O s.wn])/\G w.1.size w w':=by
 obtain⟨c,b,a,d⟩:=box2 w (.cells #[I O s.t,I O s.se,I O s.wn] 197) (.cells #[I O s.t,I O s.se,I O s.wn] 146)
 go_enter func338,ntmps338
 go_wp2_with fail
 refine bodyPost_ret (v:=.agg #[I O s.t,I O s.se,I O s.wn]) (results_cell_row results338 _ _ (w.1.size+1) _ _ _ _ rfl b underlying146 rfl (by kernel_rfl)) rfl ?_
 exact⟨rfl,a⟩
theorem keyOf_Reclaim(s:Sg)(w:R):Calls prog 102 #[.iface 197 (.agg #[I O s.t,I O s.se,I O s.wn])] w fun e w'=>e=.returned (.agg #[I O 2,I O s.t,I O s.se,I O s.wn])/\G w.1.size w w':=by
 have b0:=zr w (.cells #[I O 0,I O 0,I O 0,I O 0] 162)
 have m:=zG w (.cells #[I O 0,I O 0,I O 0,I O 0] 162)
 have g:G w.1.size w (w.alloc (.cells #[I O 0,I O 0,I O 0,I O 0] 162)):=(T _ _).alloc (U _) _
 have p:=fun W=>zd (kind_Reclaim s W)
 have q:=fun W=>zd (segm_Reclaim s W)
 have B0:=zd b0
 have n:=zd m
 have h:=zd g
 clear b0 m g
 have x:=vj s
 have y:=yP s
 go_enter func102,ntmps102
 go_wp2_with(first
  |(go_at_call 337;refine(ud (p _)).mono ?_;rintro e z ⟨rfl,a⟩;have c:=zd a;clear a)
  |(go_at_call 338;refine(ud (q _)).mono ?_;rintro e A ⟨rfl,b⟩;have d:w.1.size<(w.alloc (.cells #[I O 0,I O 0,I O 0,I O 0] 162)).1.size:=(by rw[ud n];omega);have f:=(b.block w.1.size (M d (ud c).size)).trans (((ud c).block w.1.size d).trans (ud B0));obtain⟨B,C,D,F,-⟩:=zc f;have H:=fun j=>zH f j;have u:=zb f;have o:=zd f;have k:=zd b;clear b f d))
 have r:=xi (i:=3) (xi (i:=2) (xi (i:=1) (xi (i:=0) (ud o) (I O 2)) (I O s.t)) (I O s.se)) (I O s.wn)
 refine bodyPost_ret (v:=.agg #[I O 2,I O s.t,I O s.se,I O s.wn]) (results_cell_row results102 _ _ w.1.size _ _ _ _ rfl r underlying162 rfl (by kernel_rfl)) rfl ?_
 have l:=ud h
 have a:=ud c
 have b:=ud k
 exact⟨rfl,(l.trans (a.mono l.size)).trans ((b.mono (zf l.size a.size)).trans (below4 (U _) _ _ _ _))⟩
end Go.Proofs.YtndhpgciopcncaaGreatDoor
