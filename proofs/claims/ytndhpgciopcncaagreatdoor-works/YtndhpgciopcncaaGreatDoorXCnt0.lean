import Derived.Test.YtndhpgciopcncaaGreatDoorXSum1
import Derived.Test.YtndhpgciopcncaaGreatDoorXSum2
import Derived.Test.YtndhpgciopcncaaGreatDoorXSum3
import Derived.Test.YtndhpgciopcncaaGreatDoorXKits0
import Derived.Deep.RegionHeld3
open Nat renaming le_refl → E
open Option renaming some → Q
open Go.RowKit.Below renaming refl → G
open Go.RowKit renaming Below → R
open Nat renaming lt_of_lt_of_le → T
open Go renaming World → M
open Go renaming Value → z9
open Nat renaming le_trans → za
set_option linter.unusedVariables false
set_option maxRecDepth 100000
set_option maxHeartbeats 8000000
open Go.Proofs.Tryz
open Go renaming undef → u_
namespace Go.Proofs.YtndhpgciopcncaaGreatDoor
open Go.ChangeMaps (setBlock)
open Go.RowKit Go.Maps Go.Shelf
variable {c:Cf} {st:Int} {L:LV} {Bl Gl:List (Sg×Unit)} {ps:List SX} {B Bk Bp N b g gb l lb m n ob s:Nat} {ex f:Nat->Prop} {a:Option Addr} {P:Program} {k:Sg} {tv:z9} {A W W' X w w':M} {Kp:M->M->Prop}
theorem YM(h:KX (fun _=>False) n m w W)(hn:w.1.size<=n):B_ w W:=⟨h.kept.os,h.kept.tape,h.kept.output,h.kept.size,fun k a=>h.low (by omega) (fun e=>e) a⟩
theorem zoN(gf:Nat)(lb:Array z9)(c:Nat)(a b:Array z9)(w:M):
  Calls prog 151 #[.func (.func gf) #[] lb,.func (.func c) a b] w fun e w'=>e=.returned (.func (.func 225) #[] #[(O w.1.size),(O (w.1.size+1))])/\w'=((w.alloc (.cells #[.func (.func gf) #[] lb] 150)).alloc (.cells #[.func (.func c) a b] 158)):=by
 go_in;go_wp2_with fail;go_ret;exact⟨rfl,rfl⟩
theorem zoK:∀args w,(callFunc 225 args).run prog w=.ok (.enter 225 args) w:=enters_of func225 (by kernel_rfl) rfl
theorem zod(x:SX)(w:M):Calls prog 152 #[.agg (xZz x)] w (Rz w (I 1)):=by
 have a:B_ w (w.alloc (.cells (xZz x) 148)):=(G _ _).alloc (E _) _;go_in;go_wp2_with fail;go_ret;first|exact⟨rfl,a⟩|exact⟨rfl,G _ _⟩
theorem zns(gf:Nat)(lb:Array z9)(r:∀args w,(callFunc gf args).run prog w=.ok (.enter gf args) w)(c:Nat)(a g:Array z9)(s:∀args w,(callFunc c args).run prog w=.ok (.enter c args) w){S:List SX->Prop}(p:SX->Bool)(w:M)(k:∀(x:SX) (W:M),B_ w W->Calls prog c (a++#[.agg (xZz x)]++g) W fun e W'=>e=.returned (.bool (p x))/\B_ W W')(f:Z8 (fun _=>False) w.1.size prog gf lb (fun x:SX=>#[.agg (xZz x)]) S N w)(A:∀xs,S xs->xs.length<=9223372036854775807):
  Calls prog 90 #[.func (.func gf) #[] lb,.func (.func c) a g] w fun e w'=>∃xs,S xs/\e=.returned (I (xs.filter p).length)/\B_ w w':=by
 obtain⟨o,q,b,i⟩:=box2 w (.cells #[.func (.func gf) #[] lb] 150) (.cells #[.func (.func c) a g] 158);have u:Z8 (fun _=>False) (w.1.size+2) prog 225 #[(O w.1.size),(O (w.1.size+1))] (fun x:SX=>#[.agg (xZz x)]) (fun v=>∃xs,S xs/\v=xs.filter p) N ((w.alloc (.cells #[.func (.func gf) #[] lb] 150)).alloc (.cells #[.func (.func c) a g] 158)):=
  zkB gf lb r c a g s p w.1.size (w.1.size+1) _ (by rw[i];omega) ⟨by omega,fun e=>e⟩ ⟨by omega,fun e=>e⟩ o q (fun x W ⟨m,B⟩=>k x W (b.trans ((YM B (by rw[i];omega)).mono (by rw[i];omega)))) ((f.later b).lower (by omega))
 have y:=ze (zkg 225 _ zoK (fun _=>1) _ (by rw[i];omega) (fun x W _=>zod x W) u);have z:=ze (zoN gf lb c a g w);have n:=ze b;clear k f u o q b i r s;go_in;go_wp2_with(first
  |(go_at_call 151;refine z.mono ?_;rintro e w1 ⟨rfl,rfl⟩)
  |(go_at_call 87;refine y.mono ?_;rintro e w2 ⟨v,⟨xs,t,rfl⟩,rfl,j⟩;have l:=ze j;have h:=ze t;clear j t))
 go_ret;have d:=za (yK p xs) (A xs h);refine⟨xs,h,by(first|rw[jP _ d]|rw[jP _ (by rw[List.length_unattach];exact d),List.length_unattach]);rfl,n.trans (l.mono n.size)⟩
theorem zoM(gf:Nat)(lb:Array z9)(c:Nat)(a b:Array z9)(w:M):
  Calls prog 154 #[.func (.func gf) #[] lb,.func (.func c) a b] w fun e w'=>e=.returned (.func (.func 226) #[] #[(O w.1.size),(O (w.1.size+1))])/\w'=((w.alloc (.cells #[.func (.func gf) #[] lb] 166)).alloc (.cells #[.func (.func c) a b] 172)):=by
 go_in;go_wp2_with fail;go_ret;exact⟨rfl,rfl⟩
theorem zoJ:∀args w,(callFunc 226 args).run prog w=.ok (.enter 226 args) w:=enters_of func226 (by kernel_rfl) rfl
theorem zoc(x:Lse)(w:M):Calls prog 155 #[.agg (lZz x)] w (Rz w (I 1)):=by
 have a:B_ w (w.alloc (.cells (lZz x) 164)):=(G _ _).alloc (E _) _;go_in;go_wp2_with fail;go_ret;first|exact⟨rfl,a⟩|exact⟨rfl,G _ _⟩
theorem zhO(gf:Nat)(lb:Array z9)(r:∀args w,(callFunc gf args).run prog w=.ok (.enter gf args) w)(c:Nat)(a g:Array z9)(s:∀args w,(callFunc c args).run prog w=.ok (.enter c args) w){S:List Lse->Prop}(p:Lse->Bool)(w:M)(k:∀(x:Lse) (W:M),B_ w W->Calls prog c (a++#[.agg (lZz x)]++g) W fun e W'=>e=.returned (.bool (p x))/\B_ W W')(f:Z8 (fun _=>False) w.1.size prog gf lb (fun x:Lse=>#[.agg (lZz x)]) S N w)(A:∀xs,S xs->xs.length<=9223372036854775807):
  Calls prog 93 #[.func (.func gf) #[] lb,.func (.func c) a g] w fun e w'=>∃xs,S xs/\e=.returned (I (xs.filter p).length)/\B_ w w':=by
 obtain⟨o,q,b,i⟩:=box2 w (.cells #[.func (.func gf) #[] lb] 166) (.cells #[.func (.func c) a g] 172);have u:Z8 (fun _=>False) (w.1.size+2) prog 226 #[(O w.1.size),(O (w.1.size+1))] (fun x:Lse=>#[.agg (lZz x)]) (fun v=>∃xs,S xs/\v=xs.filter p) N ((w.alloc (.cells #[.func (.func gf) #[] lb] 166)).alloc (.cells #[.func (.func c) a g] 172)):=
  zkA gf lb r c a g s p w.1.size (w.1.size+1) _ (by rw[i];omega) ⟨by omega,fun e=>e⟩ ⟨by omega,fun e=>e⟩ o q (fun x W ⟨m,B⟩=>k x W (b.trans ((YM B (by rw[i];omega)).mono (by rw[i];omega)))) ((f.later b).lower (by omega))
 have y:=ze (zkf 226 _ zoJ (fun _=>1) _ (by rw[i];omega) (fun x W _=>zoc x W) u);have z:=ze (zoM gf lb c a g w);have n:=ze b;clear k f u o q b i r s;go_in;go_wp2_with(first
  |(go_at_call 154;refine z.mono ?_;rintro e w1 ⟨rfl,rfl⟩)
  |(go_at_call 153;refine y.mono ?_;rintro e w2 ⟨v,⟨xs,t,rfl⟩,rfl,j⟩;have l:=ze j;have h:=ze t;clear j t))
 go_ret;have d:=za (yK p xs) (A xs h);refine⟨xs,h,by(first|rw[jP _ d]|rw[jP _ (by rw[List.length_unattach];exact d),List.length_unattach]);rfl,n.trans (l.mono n.size)⟩
theorem Vp(gf:Nat)(lb:Array z9)(c:Nat)(a b:Array z9)(w:M):
  Calls prog 124 #[.func (.func gf) #[] lb,.func (.func c) a b] w fun e w'=>e=.returned (.func (.func 194) #[] #[(O w.1.size),(O (w.1.size+1))])/\w'=((w.alloc (.cells #[.func (.func gf) #[] lb] 199)).alloc (.cells #[.func (.func c) a b] 206)):=by
 go_in;go_wp2_with fail;go_ret;exact⟨rfl,rfl⟩
theorem Vo:∀args w,(callFunc 194 args).run prog w=.ok (.enter 194 args) w:=enters_of func194 (by kernel_rfl) rfl
theorem zob{α:Type}(a:α->Sg)(x:α)(w:M):Calls prog 182 #[.agg #[I (a x).t,I (a x).se,I (a x).we]] w (Rz w (I 1)):=by
 have b:B_ w (w.alloc (.cells #[I (a x).t,I (a x).se,I (a x).we] 146)):=(G _ _).alloc (E _) _;go_in;go_wp2_with fail;go_ret;first|exact⟨rfl,b⟩|exact⟨rfl,G _ _⟩
theorem zhN{α:Type}(b:α->Sg)(gf:Nat)(lb:Array z9)(s:∀args w,(callFunc gf args).run prog w=.ok (.enter gf args) w)(d:Nat)(a h:Array z9)(u:∀args w,(callFunc d args).run prog w=.ok (.enter d args) w){S:List α->Prop}(p:α->Bool)(w:M)(l:∀(x:α) (W:M),B_ w W->Calls prog d (a++#[.agg #[I (b x).t,I (b x).se,I (b x).we]]++h) W fun e W'=>e=.returned (.bool (p x))/\B_ W W')(g:Z8 (fun _=>False) w.1.size prog gf lb (fun x:α=>#[.agg #[I (b x).t,I (b x).se,I (b x).we]]) S N w)(C:∀xs,S xs->xs.length<=9223372036854775807):
  Calls prog 119 #[.func (.func gf) #[] lb,.func (.func d) a h] w fun e w'=>∃xs,S xs/\e=.returned (I (xs.filter p).length)/\B_ w w':=by
 obtain⟨q,r,c,j⟩:=box2 w (.cells #[.func (.func gf) #[] lb] 199) (.cells #[.func (.func d) a h] 206);have y:Z8 (fun _=>False) (w.1.size+2) prog 194 #[(O w.1.size),(O (w.1.size+1))] (fun x:α=>#[.agg #[I (b x).t,I (b x).se,I (b x).we]]) (fun z=>∃xs,S xs/\z=xs.filter p) N ((w.alloc (.cells #[.func (.func gf) #[] lb] 199)).alloc (.cells #[.func (.func d) a h] 206)):=
  ZH b gf lb s d a h u p w.1.size (w.1.size+1) _ (by rw[j];omega) ⟨by omega,fun e=>e⟩ ⟨by omega,fun e=>e⟩ q r (fun x W ⟨m,D⟩=>l x W (c.trans ((YM D (by rw[j];omega)).mono (by rw[j];omega)))) ((g.later c).lower (by omega))
 have A:=ze (zke b 194 _ Vo (fun _=>1) _ (by rw[j];omega) (fun x W _=>zob b x W) y);have B:=ze (Vp gf lb d a h w);have o:=ze c;clear l g y q r c j s u;go_in;go_wp2_with(first
  |(go_at_call 124;refine B.mono ?_;rintro e w1 ⟨rfl,rfl⟩)
  |(go_at_call 181;refine A.mono ?_;rintro e w2 ⟨z,⟨xs,v,rfl⟩,rfl,k⟩;have n:=ze k;have i:=ze v;clear k v))
 go_ret;have f:=za (yK p xs) (C xs i);refine⟨xs,i,by(first|rw[jP _ f]|rw[jP _ (by rw[List.length_unattach];exact f),List.length_unattach]);rfl,o.trans (n.mono o.size)⟩
structure xK(w:M)(s:Nat)(c:Cf)(tv:z9)(lb gb:Nat)(Gl:List (Sg×Unit))(L:LV):Prop where
 head:w.1[s]?=Q (.cells #[I c.s,I c.le,I c.la,I c.wi,I c.ke,I c.qu,tv,.map (Q lb),.map (Q gb)] 155 (0,0))
 trow:w.ownsRow 0 80 3 tv c.n (Qp c.n c.F c.W c.K)
 live:vm w lb L
 gone:xn jE w gb Gl
 apart:gb≠lb
structure vI(w:M)(s:Nat)(c:Cf)(tv:z9)(lb gb:Nat):Prop where
 head:w.1[s]?=Q (.cells #[I c.s,I c.le,I c.la,I c.wi,I c.ke,I c.qu,tv,.map (Q lb),.map (Q gb)] 155 (0,0))
 trow:w.ownsRow 0 80 3 tv c.n (Qp c.n c.F c.W c.K)
theorem xK.hd(h:xK w s c tv lb gb Gl L):vI w s c tv lb gb:=⟨h.head,h.trow⟩
theorem vI.lt(h:vI w s c tv lb gb):s<w.1.size:=zd h.head
theorem vI.kept(h:vI w s c tv lb gb)(a:zj f w w')(b:¬f s)(d:∀k,tv.ownBlock=Q k->¬f k):vI w' s c tv lb gb:=⟨a.heap h.head b,zi h.trow a d⟩
theorem vI.later(h:vI w s c tv lb gb)(a:B_ w w'):vI w' s c tv lb gb:=h.kept (f:=fun _=>False) (zj.of_below a) (fun h=>h) (fun _ _ h=>h)
theorem vI.cells(h:vI w s c tv lb gb):w.cell? (U s 0)=Q (I c.s)/\w.cell? (U s 1)=Q (I c.le)/\w.cell? (U s 2)=Q (I c.la)/\w.cell? (U s 3)=Q (I c.wi)/\w.cell? (U s 4)=Q (I c.ke)/\w.cell? (U s 5)=Q (I c.qu)/\w.cell? (U s 6)=Q tv/\w.cell? (U s 7)=Q (.map (Q lb))/\w.cell? (U s 8)=Q (.map (Q gb)):=by
 refine⟨?_,?_,?_,?_,?_,?_,?_,?_,?_⟩<;>rw[xd h.head]<;>rfl
def ZE(s:Nat)(tv:z9)(lb gb:Nat)(k:Nat):Prop:=k=s\/tv.ownBlock=Q k\/k=lb\/k=gb
section
variable {w:M} {s:Nat} {c:Cf} {tv:z9} {lb gb:Nat} {Gl:List (Sg×Unit)} {L:LV}
theorem xK.lt(h:xK w s c tv lb gb Gl L):s<w.1.size:=zd h.head
theorem xK.kept(h:xK w s c tv lb gb Gl L)(a:zj f w w')(hn:∀k,ZE s tv lb gb k->¬f k):xK w' s c tv lb gb Gl L:=
 ⟨a.heap h.head (hn s (.inl rfl)),zi h.trow a (fun k b=>hn k (.inr (.inl b))),h.live.kept a (hn lb (.inr (.inr (.inl rfl)))),h.gone.kept a (hn gb (.inr (.inr (.inr rfl)))),h.apart⟩
theorem xK.later(h:xK w s c tv lb gb Gl L)(a:B_ w w'):xK w' s c tv lb gb Gl L:=
 h.kept (f:=fun _=>False) (zj.of_below a) (fun _ _ b=>b)
theorem xK.cells(h:xK w s c tv lb gb Gl L):w.cell? (U s 0)=Q (I c.s)/\w.cell? (U s 1)=Q (I c.le)/\w.cell? (U s 2)=Q (I c.la)/\w.cell? (U s 3)=Q (I c.wi)/\w.cell? (U s 4)=Q (I c.ke)/\w.cell? (U s 5)=Q (I c.qu)/\w.cell? (U s 6)=Q tv/\w.cell? (U s 7)=Q (.map (Q lb))/\w.cell? (U s 8)=Q (.map (Q gb)):=by
 refine⟨?_,?_,?_,?_,?_,?_,?_,?_,?_⟩<;>rw[xd h.head]<;>rfl
end
theorem zoG(x:SX)(w:M):Calls prog 89 #[.agg (xZz x)] w (Rz w (I (kg x.2))):=by
 by_cases h:x.2.st=1
 ·have a:(x.2.st==1)=true:=by simp[h]
  rw[show kg x.2=x.2.cl.cnt from by simp[kg,h]]
  clear h;go_in;go_wp2_with fail;go_ret;exact⟨rfl,(G _ _).alloc (E _) _⟩
 ·have a:(x.2.st==1)=false:=by simp[h]
  rw[show kg x.2=2 from by simp[kg,h]]
  clear h;go_in;go_wp2_with fail;go_ret;exact⟨rfl,(G _ _).alloc (E _) _⟩
theorem zdK(x:SX)(a:Nat)(k:Int)(w:M)(b:w.cell? (U a 0)=Q (I k))(c:a<w.1.size):Calls prog 91 #[.agg (xZz x),(O a)] w (Rz w (.bool (x.2.st==k))):=by
 go_in;go_wp2_with fail;go_ret;exact⟨rfl,(G _ _).alloc (E _) _⟩
theorem zkH(f:SV->Int)(h:ps.Perm L)(a:xX (qr (L.map (fun p=>f p.2)))):vY (ps.map (fun x:SX=>f x.2))=qr (L.map (fun p=>f p.2)):=by
 have e:qr (ps.map (fun x:SX=>f x.2))=qr (L.map (fun p=>f p.2)):=Vk (h.map _);rw[<-e];apply vF;rw[e];exact a
theorem zfA(k:Int)(h:ps.Perm L):((ps.filter (fun x:SX=>x.2.st==k)).length:Int)=xW L k:=by
 unfold xW;have e:qr (L.map (fun p=>Vx k p.2))=qr (ps.map (fun p=>Vx k p.2)):=(Vk (h.map _)).symm;rw[e];induction ps generalizing L with
 |nil=>rfl
 |cons p ps c=>
  have a:=c (List.Perm.refl ps) rfl;simp only[List.map_cons,List.filter_cons,qr];unfold Vx at*;by_cases b:p.2.st=k
  ·rw[if_pos (by simpa using b),if_pos b,List.length_cons,<-a];omega
  ·rw[if_neg (by simpa using b),if_neg b,<-a];omega
theorem Ql(h:xK w s c tv lb gb Gl L)(d:xX (xh L)):
  Calls prog 43 #[(O s)] w (Rz w (I (xh L))):=by
 have l:=h.lt;obtain⟨-,-,-,-,-,-,-,m,-⟩:=h.cells;have a:∀o,B_ w (w.alloc o):=fun o=>(G _ _).alloc (E _) _;have j:=ze (JY lb w);have i:=ze (zmr 150 #[(O w.1.size)] zde (fun x:SX=>kg x.2) (w.alloc (.cells #[.map (Q lb)] 152)) (E _)
  (fun x W n=>zoG x W)
  (zih (ex:=fun _=>False) w.1.size lb L _ (fun e=>e) (by simp) (by rw[xd (zo _ _)];rfl) (qF.1 (h.live.later (a _)))))
 have g:=ze d;clear h d;go_in;go_wp2_with fail;refine j.mono ?_;rintro e w1 ⟨rfl,rfl⟩;go_wp2_with fail;refine i.mono ?_;rintro e w1 ⟨xs,k,rfl,b⟩;have f:=zkH kg k g;rw[f];clear f;go_wp2_with fail;go_ret;exact⟨rfl,(a _).trans (b.mono (a _).size)⟩
theorem scen:∀args w,(callFunc 91 args).run prog w=.ok (.enter 91 args) w:=enters_of func91 (by kernel_rfl) rfl
theorem QV(h:xK w s c tv lb gb Gl L)(k:Int)(y:(k==4)=false)(v:L.length<=100000):
  Calls prog 44 #[(O s),I k] w (Rz w (I (xW L k))):=by
 have j:=h.lt;obtain⟨-,-,-,-,-,-,-,t,-⟩:=h.cells;have f:∀o,B_ w (w.alloc o):=fun o=>(G _ _).alloc (E _) _;obtain⟨d,m,a,n⟩:=box2 w (.cells #[I k] 97) (.cells #[.map (Q lb)] 152);have r:=ze (JY lb (w.alloc (.cells #[I k] 97)));have q:=ze (zns 150 #[(O (w.1.size+1))] zde 91 #[] #[(O w.1.size)] scen (fun x:SX=>x.2.st==k) _
  (fun x W l=>zdK x w.1.size k W (by rw[xd ((l.block _ (zd d)).trans d)];rfl) (T (zd d) l.size))
  (zih (ex:=fun _=>False) (w.1.size+1) lb L _ (fun e=>e) (by rw[n];omega) (by rw[xd m];rfl) (qF.1 (h.live.later a))) (fun xs i=>by rw[i.length_eq];omega))
 have b:=ze a;have u:=((f (.cells #[I k] 97)).cell (p:=(U s 7)) j).trans t;clear h v d m a n;go_in;go_wp2_with fail;refine r.mono ?_;rintro e w1 ⟨rfl,rfl⟩;go_wp2_with fail;refine q.mono ?_;rintro e w1 ⟨xs,i,rfl,g⟩;rw[zfA k i];go_wp2_with fail;go_ret;exact⟨rfl,b.trans (g.mono b.size)⟩
theorem zje(h:xK w s c tv lb gb Gl L):
  Calls prog 44 #[(O s),I 4] w (Rz w (I Gl.length)):=by
 have d:=h.lt;obtain⟨-,-,-,-,-,-,-,-,e⟩:=h.cells;have a:∀o,B_ w (w.alloc o):=fun o=>(G _ _).alloc (E _) _;have b:(Builtin.len_ #[153] 3 #[.map (Q gb)]).run prog (w.alloc (.cells #[I 4] 97))=.ok (I Gl.length) (w.alloc (.cells #[I 4] 97)):=zmj Xv (h.gone.later (a _)) _;clear h;go_in;go_wp2_with fail;go_ret;exact⟨rfl,a _⟩
theorem J8(c:Cf)(a:Option Addr)(cap:Nat)(w:M):Calls prog 179 #[(cZz c a cap)] w (Rz w (I c.n)):=by
 go_in;go_wp2_with fail;go_ret;exact⟨rfl,(G _ _).alloc (E _) _⟩
theorem YN(c:Cf)(a:Option Addr)(cap:Nat)(w:M):Calls prog 61 #[(cZz c a cap)] w (Rz w (I c.la)):=by
 go_in;go_wp2_with fail;go_ret;exact⟨rfl,(G _ _).alloc (E _) _⟩
theorem QR(c:Cf)(a:Option Addr)(cap:Nat)(w:M):Calls prog 63 #[(cZz c a cap)] w (Rz w (I c.qu)):=by
 go_in;go_wp2_with fail;go_ret;exact⟨rfl,(G _ _).alloc (E _) _⟩
theorem zdp(c:Cf)(l:c.ok)(a:Option Addr)(cap:Nat)(t tm:Int)(d: -1<=t)(f:t<c.n)(j:0<=tm/\tm<=100000)(w:M)(k:TS w a c.n c.F c.W c.K):Calls prog 184 #[(cZz c a cap),I t,I tm] w (Rz w (I (tm/c.wh t))):=by
 have b:∀o,B_ w (w.alloc o):=fun o=>(G _ _).alloc (E _) _;obtain⟨r,u⟩:=l.wh d f;obtain⟨p,q⟩:=j;have i:=l.n4;have m:Hid (xp c.wi c.W t=c.wh t):=rfl;have g:=fun o=>ze (kX c.s c.le c.la c.wi c.ke c.qu a c.n cap c.F c.W c.K t d f i (w.alloc o) (k.below (b o)));go_in;go_wp2_with fail;refine(g _).mono ?_;rintro e w1 ⟨rfl,h⟩;rw[ud m];go_wp2_with fail;go_ret;exact⟨rfl,(b _).trans (h.mono (b _).size)⟩
theorem zad(c:Cf)(q:c.ok)(a:Option Addr)(cap:Nat)(t we:Int)(f: -1<=t)(g:t<c.n)(p:0<=we/\we<=100000)(w:M)(l:TS w a c.n c.F c.W c.K):Calls prog 180 #[(cZz c a cap),I t,I we] w (Rz w (I ((we+1)*c.wh t))):=by
 have b:∀o,B_ w (w.alloc o):=fun o=>(G _ _).alloc (E _) _;obtain⟨z,m⟩:=q.wh f g;obtain⟨x,y⟩:=p;have k:=q.n4;have r:Hid (xp c.wi c.W t=c.wh t):=rfl;have i:=fun o=>ze (kX c.s c.le c.la c.wi c.ke c.qu a c.n cap c.F c.W c.K t f g k (w.alloc o) (l.below (b o)));have d:0<=(we+1)*c.wh t/\(we+1)*c.wh t<=1000000000:=by
  constructor
  ·exact Int.mul_nonneg (by omega) (by omega)
  ·have:=Int.mul_le_mul (show we+1<=100001 by omega) m (by omega) (by omega);omega
 obtain⟨u,v⟩:=d;have h:wrap64 ((we+1)*c.wh t)=(we+1)*c.wh t:=by unfold wrap64;omega
 go_in;go_wp2_with fail;refine(i _).mono ?_;rintro e w1 ⟨rfl,j⟩;rw[ud r];go_wp2_with fail;go_ret;exact⟨by first|rfl|rw[h],(b _).trans (j.mono (b _).size)⟩
theorem zeH(c:Cf)(f:c.ok)(a:Option Addr)(cap:Nat)(t:Int)(w:M):Calls prog 116 #[(cZz c a cap),I t] w (Rz w (.bool (inB t (-1) ((c.n:Int)-1)))):=by
 have b:∀o,B_ w (w.alloc o):=fun o=>(G _ _).alloc (E _) _;have i:=f.n4;have h:=f.n1;have g:=fun o=>ze (J8 c a cap (w.alloc o));go_in;go_wp2_with fail;refine(g _).mono ?_;rintro e w1 ⟨rfl,d⟩;go_wp2_with(go_at_call 92;refine(xT _ _ _ _).mono ?_;rintro e w2 ⟨rfl,rfl⟩);go_ret;exact⟨rfl,(b _).trans (d.mono (b _).size)⟩
theorem zeN(h:vI w s c tv lb gb)(y:c.ok)(t se tm:Int)(l: -1<=t)(m:t<c.n)(q:0<=tm/\tm<=100000):
  Calls prog 122 #[(O s),I t,I se,I tm] w (Rz w (.agg #[I t,I se,I (tm/c.wh t)])):=by
 obtain⟨a,cap,rfl⟩:=zq h.trow;have A:=h.lt;have b:∀o,B_ w (w.alloc o):=fun o=>(G _ _).alloc (E _) _;have f:=TS.of_owns h.trow;obtain⟨B,C,D,F,H,J,K,-,-⟩:=h.cells;have i:=fun o=>ze (zdp c y a cap t tm l m q (w.alloc o) (f.below (b o)));have r:=ze (zo w (.cells #[I 0,I 0,I 0] 146));have u:=ze (zE w (.cells #[I 0,I 0,I 0] 146));clear h f;go_in;go_wp2_with fail;refine(i _).mono ?_;rintro e w1 ⟨rfl,d⟩;have g:=(d.block w.1.size (by rw[ud u];omega)).trans r;obtain⟨L,N,P,-⟩:=zc g;have S:=fun j=>zI g j;have x:=ze g;clear g;go_wp2_with fail;have z:=set3 x (I t) (I se) (I (tm/c.wh t));have k:R w.1.size w1 (((w1.setCell (U w.1.size 0) (I t)).setCell (U w.1.size 1) (I se)).setCell (U w.1.size 2) (I (tm/c.wh t))):=(((G _ _).setCell (p:=(U w.1.size 0)) (E _) _).setCell (p:=(U w.1.size 1)) (E _) _).setCell (p:=(U w.1.size 2)) (E _) _;refine bodyPost_ret (v:=.agg #[I t,I se,I (tm/c.wh t)]) (results_cell_row results122 _ _ w.1.size _ _ _ _ rfl z underlying146 rfl (by kernel_rfl)) rfl ?_;exact⟨rfl,(b _).trans ((d.mono (b _).size).trans k)⟩
theorem zfV(c:Cf)(a:Option Addr)(cap:Nat)(w:M):Calls prog 103 #[(cZz c a cap)] w (Rz w (I c.le)):=by
 go_in;go_wp2_with fail;go_ret;exact⟨rfl,(G _ _).alloc (E _) _⟩
theorem zbD(c:Cf)(d:c.ok)(a:Option Addr)(cap:Nat)(t:Int)(w:M):Calls prog 46 #[(cZz c a cap),I t] w (Rz w (.bool (inB t 0 (c.s-1)))):=by
 have b:∀o,B_ w (w.alloc o):=fun o=>(G _ _).alloc (E _) _;obtain⟨g,h⟩:=d.sl;have f:=fun W=>ze (xT t 0 (c.s-1) W);clear d;go_in;go_wp2_with(first|(go_at_call 92;refine(f _).mono ?_;rintro e w1 ⟨rfl,rfl⟩));go_ret;exact⟨rfl,b _⟩
theorem zfU(c:Cf)(j:c.ok)(a:Option Addr)(cap:Nat)(t:Int)(q: -1<=t)(r:t<c.n)(w:M)(f:TS w a c.n c.F c.W c.K):Calls prog 234 #[(cZz c a cap),I t] w (Rz w (I (c.keep t))):=by
 have p:=j.n4;have d:∀o,B_ w (w.alloc o):=fun o=>(G _ _).alloc (E _) _;by_cases h:t= -1
 ·subst h;rw[show c.keep (-1)=c.ke from rfl];go_in;go_wp2_with fail;go_ret;exact⟨rfl,d _⟩
 ·obtain⟨k,rfl⟩:∃k:Nat,t=k:=⟨t.toNat,by omega⟩;have l:k<c.n:=by omega
  obtain⟨b,off,rfl,i,e⟩:=f.below (d (.cells (aZz c a cap) 27)) (by omega);obtain⟨-,-,u⟩:=e k l;have m:(k:Int)<c.n:=by omega
  have s:((k:Int)== -1)=false:=by simp
  have g:Hid (c.keep (k:Int)=c.K k):=by show c.keep (k:Int)=c.K k;unfold Cf.keep;rw[if_neg (by omega)];simp
  clear e f;rw[ud g];go_in;go_wp2_with fail;go_ret;exact⟨rfl,d _⟩
theorem KI(c:Cf)(m:c.ok)(a:Option Addr)(cap:Nat)(t we now:Int)(r: -1<=t)(s:t<c.n)(d:0<=we/\we<=100000)(q:0<=now/\now<=100000)(w:M)(e:TS w a c.n c.F c.W c.K):Calls prog 117 #[(cZz c a cap),I t,I we,I now] w (Rz w (.bool (decide ((we+1)*c.wh t<=now-c.la)))):=by
 have k:∀o,B_ w (w.alloc o):=fun o=>(G _ _).alloc (E _) _;obtain⟨U,V⟩:=m.la;have Z:=ze m;have x:=d;obtain⟨n1,n2⟩:=q;have p:0<=(we+1)*c.wh t/\(we+1)*c.wh t<=1000000000:=by
  obtain⟨Y,C⟩:=m.wh r s;constructor
  ·exact Int.mul_nonneg (by omega) (by omega)
  ·have:=Int.mul_le_mul (show we+1<=100001 by omega) C (by omega) (by omega);omega
 have O:=ze d;obtain⟨v,hv⟩:∃v,(we+1)*c.wh t=v:=⟨_,rfl⟩;have y:∀W,B_ w W->Hid (Calls prog 180 #[(cZz c a cap),I t,I we] W (Rz W (I v))):=fun W S=>by have h:=zad c m a cap t we r s d W (e.below S);rw[hv]at h;exact h
 rw[hv]at p ⊢;clear m d x hv;have l:=k (.cells (aZz c a cap) 89);have D:=zo w (.cells (aZz c a cap) 89);have H:=zE w (.cells (aZz c a cap) 89);obtain⟨x0,x1,x2,x3,x4,x5,x6,-⟩:=zc D;have f:=ze l;have L:=ze e;have J:=ze H;clear D H l e k;go_in;go_wp2_with fail;have q4:w.1.size<w.1.size+1:=by omega
 generalize(w.alloc (.cells (aZz c a cap) 89))=X at*;generalize P:w.1.size+1=N at*;have B:Nonempty (zm N X):=zm.some _ _;have A:=fun(u:zm N X) b o h=>u.cell b o h;have j:N<=X.1.size:=by rw[ud J];exact E _
 have i:=ze j;have g:Hid (w.1.size<=N):=by show w.1.size<=N;omega
 clear j P;refine zh N (by kernel_rfl) (by kernel_rfl) ?_;repeat(go_big_quiet_step (first
  |(go_at_call 180;exact Calls.later i (ud (y _ (f.trans (Below.mono (Subtype.property _) g)))))
  |(go_at_call 61;exact Calls.later i (YN c a cap _))))
 refine wpQuiet_nil ?_;rintro⟨w1,z⟩;clear A B;dsimp only;go_wp2_with fail;go_ret;exact⟨rfl,f.trans (z.mono g)⟩
theorem zbz(c:Cf)(q:c.ok)(a:Option Addr)(cap:Nat)(t we:Int)(d: -1<=t)(e:t<c.n)(j:0<=we/\we<=100000)(w:M)(i:TS w a c.n c.F c.W c.K):Calls prog 177 #[(cZz c a cap),I t,I we] w (Rz w (I ((we+1)*c.wh t+c.keep t))):=by
 have m:∀o,B_ w (w.alloc o):=fun o=>(G _ _).alloc (E _) _;have J:=ze q;obtain⟨U,V⟩:=q.keeps d e;have r:0<=(we+1)*c.wh t/\(we+1)*c.wh t<=1000000000:=by
  obtain⟨S,B⟩:=q.wh d e;constructor
  ·exact Int.mul_nonneg (by omega) (by omega)
  ·have:=Int.mul_le_mul (show we+1<=100001 by omega) B (by omega) (by omega);omega
 have L:=ze j;obtain⟨v,hv⟩:∃v,(we+1)*c.wh t=v:=⟨_,rfl⟩;have s:∀W,B_ w W->Hid (Calls prog 180 #[(cZz c a cap),I t,I we] W (Rz W (I v))):=fun W P=>by have h:=zad c q a cap t we d e j W (i.below P);rw[hv]at h;exact h
 rw[hv]at r ⊢;clear q j hv;have p:=m (.cells (aZz c a cap) 89);have C:=zo w (.cells (aZz c a cap) 89);have D:=zE w (.cells (aZz c a cap) 89);obtain⟨Z,x1,x2,x3,x4,x5,x6,-⟩:=zc C;have f:=ze p;have x:=ze i;have H:=ze D;clear C D p i m;go_in;go_wp2_with fail;have Y:w.1.size<w.1.size+1:=by omega
 generalize(w.alloc (.cells (aZz c a cap) 89))=X at*;generalize O:w.1.size+1=N at*;have A:Nonempty (zm N X):=zm.some _ _;have z:=fun(u:zm N X) b o h=>u.cell b o h;have l:N<=X.1.size:=by rw[ud H];exact E _
 have k:=ze l;have g:Hid (w.1.size<=N):=by show w.1.size<=N;omega
 clear l O;refine zh N (by kernel_rfl) (by kernel_rfl) ?_;repeat(go_big_quiet_step (first
  |(go_at_call 180;exact Calls.later k (ud (s _ (f.trans (Below.mono (Subtype.property _) g)))))
  |(go_at_call 234;exact Calls.later k (zfU c J a cap t d e _ (x.below (f.trans (Below.mono (Subtype.property _) g)))))))
 refine wpQuiet_nil ?_;rintro⟨w1,y⟩;clear z A;dsimp only;go_wp2_with fail;go_ret;exact⟨rfl,f.trans (y.mono g)⟩
theorem ZA{fn:Func}{p u:Tmp}{b:TypeId}(h:fn.results=#[.tmp u,.cell p b])(tmps:Array z9)(w:M)(g:Nat)(t:TypeId)(cs:Array z9)(fr:Nat×Nat)(d:TypeDesc)(x:z9)(l:tmps.getD u u_=x)(j:tmps.getD p u_=(O g))(f:w.1[g]?=Q (.cells cs t fr))(k:P.underlying b=Q d)(e:(match d with| .struct _| .array _ _=>true|_=>false)=true)(i:(P.info? b).map (·.size)=Q cs.size):
  (results fn tmps).run P w=.ok (.tuple #[x,.agg cs]) w:=by
 have c:(results fn tmps).run P w=((asAddr (tmps.getD p u_)).run P w).andThen fun a m=>((loadVar b a).run P m).andThen fun v n=> .ok (.tuple #[tmps.getD u u_,v]) n:=by
  simp only[results,h];simp[Sem.run_bind,Result.andThen]
 rw[c,j,l];simp[asAddr,run_loadVar_row w g t b cs fr d f k e i,Result.andThen]
theorem zjQ{a b c d:z9}{t:TypeId}{fr:Nat×Nat}(h:w.1[g]?=Q (.cells #[a,b,c,d] t fr))(x y z u:z9):(((((w.setCell (U g 0) x).setCell (U g 1) y).setCell (U g 2) z).setCell (U g 3) u).drew).1[g]?=Q (.cells #[x,y,z,u] t fr):=by
 have:=xq (i:=3) (xq (i:=2) (xq (i:=1) (xq (i:=0) h x) y) z) u;exact this
theorem YY(h:B<=g)(x y z u:z9):R B w (((((w.setCell (U g 0) x).setCell (U g 1) y).setCell (U g 2) z).setCell (U g 3) u).drew):=
 (((((G _ _).setCell (p:=(U g 0)) h _).setCell (p:=(U g 1)) h _).setCell (p:=(U g 2)) h _).setCell (p:=(U g 3)) h _).drew
theorem below4(h:B<=g)(x y z u:z9):R B w ((((w.setCell (U g 0) x).setCell (U g 1) y).setCell (U g 2) z).setCell (U g 3) u):=
 ((((G _ _).setCell (p:=(U g 0)) h _).setCell (p:=(U g 1)) h _).setCell (p:=(U g 2)) h _).setCell (p:=(U g 3)) h _
def stX(L:LV)(s:Sg):SX:=match vf L s with
 |some v=>(s,v)
 |none=>zX
theorem zjW(L:LV)(s:Sg):(stX L s).2=stL L s:=by unfold stX stL;cases vf L s<;>rfl
theorem znR(L:LV)(s:Sg):zdo false (vx zX) L s=vx (stX L s):=by
 unfold zdo stX;cases vf L s<;>rfl
theorem zbA{s:Sg}(hn:zU Gl s=none)(b:xn jE w gb Gl)(a:B_ w X)(c:s.wf):(Instr.lookup 153 (.map (Q gb)) (.agg #[I s.t,I s.se,I s.we]) true).run prog X=.ok (.tuple #[.agg #[],.bool false]) X:=by
 have h:=kV Xv true (b.later a) c;rw[hn]at h;exact h
theorem zbB{s:Sg}(hn:zU Gl s=Q ())(b:xn jE w gb Gl)(a:B_ w X)(c:s.wf):(Instr.lookup 153 (.map (Q gb)) (.agg #[I s.t,I s.se,I s.we]) true).run prog X=.ok (.tuple #[.agg #[],.bool true]) X:=by
 have h:=kV Xv true (b.later a) c;rw[hn]at h;exact h
theorem J7{s:Sg}{v:SX}(hv:v=stX L s)(b:vm w lb L)(a:B_ w X)(c:s.wf):(Instr.lookup 152 (.map (Q lb)) (.agg #[I s.t,I s.se,I s.we]) false).run prog X=.ok (.agg (xZz v)) X:=by
 subst hv;have:=zeT false (b.later a) c;rw[znR]at this;exact this
theorem zgx(h:xK w b c tv lb gb Gl L)(s:Sg)(hs:s.wf)(x:zU Gl s=none):
  Calls prog 118 #[(O b),.agg #[I s.t,I s.se,I s.we]] w (Rz w (.tuple #[I (stL L s).st,clV (stL L s).cl])):=by
 obtain⟨v,hv⟩:∃v,v=stX L s:=⟨_,rfl⟩;rw[<-zjW,<-hv];have n:=ze hv;clear hv;have y:=h.lt;obtain⟨-,-,-,-,-,-,-,P,S⟩:=h.cells;have H:=ze h;obtain⟨N,y1,a,yz⟩:=box2 w (.cells #[I s.t,I s.se,I s.we] 146) kq;have i:=ze hs;have f:=ze x;clear h hs x;go_in;go_wp2_with fail;generalize((w.alloc (.cells #[I s.t,I s.se,I s.we] 146)).alloc kq)=X at*;obtain⟨k0,k1,k2,-⟩:=zc N;have x7:=(a.cell (p:=(U b 7)) y).trans P;have x8:=(a.cell (p:=(U b 8)) y).trans S;have C:=zbA f (X:=X) H.gone a i;have D:=zbA f (X:=X.drew) H.gone a.drew i;have F:=fun o=>zbA f (X:=X.alloc o) H.gone (a.alloc a.size o) i;have J:=fun o=>zbA f (X:=(X.alloc o).drew) H.gone (a.alloc a.size o).drew i;have K:=fun o=>zbA f (X:=X.drew.alloc o) H.gone (a.drew.alloc a.drew.size o) i;have Y1:=ze y1;have B:=ze yz;have m:=ze a;have Y0:=ze N;clear N y1 yz a P S;have u:b<X.1.size:=by have:=ud B;omega
 have k:w.1.size<X.1.size:=by have:=ud B;omega
 have g:w.1.size+1<X.1.size:=by have:=ud B;omega
 go_region
 have e:B_ X ((X.alloc zkL).drew):=((G _ _).alloc (E _) _).drew;have d:B_ w ((X.alloc zkL).drew):=m.trans (e.mono m.size);generalize((X.alloc zkL).drew)=Y at*;have m0:=(e.cell (p:=(U w.1.size 0)) k).trans k0;have m1:=(e.cell (p:=(U w.1.size 1)) k).trans k1;have m2:=(e.cell (p:=(U w.1.size 2)) k).trans k2;have y7:=(e.cell (p:=(U b 7)) u).trans x7;have V:=(e.block (w.1.size+1) g).trans Y1;clear C D F J K k0 k1 k2 x7 x8;have a2:=e.size;have u:b<Y.1.size:=by omega
 have k:w.1.size<Y.1.size:=by omega
 have g:w.1.size+1<Y.1.size:=by omega
 have C:=J7 (hv:=ud n) (X:=Y) H.live d i;have D:=J7 (hv:=ud n) (X:=Y.drew) H.live d.drew i;have F:=fun o=>J7 (hv:=ud n) (X:=Y.alloc o) H.live (d.alloc d.size o) i;have J:=fun o=>J7 (hv:=ud n) (X:=(Y.alloc o).drew) H.live (d.alloc d.size o).drew i;have K:=fun o=>J7 (hv:=ud n) (X:=Y.drew.alloc o) H.live (d.drew.alloc d.drew.size o) i;have q:=ze d;have E1:=ze V;clear e d V;go_wp2_with fail;go_region
 have l:B_ Y ((Y.alloc (.cells (xZz v) 148)).drew):=((G _ _).alloc (E _) _).drew;have r:((Y.alloc (.cells (xZz v) 148)).drew).1[Y.1.size]?=Q (.cells (xZz v) 148 (0,0)):=zo _ _;generalize((Y.alloc (.cells (xZz v) 148)).drew)=Z at*;obtain⟨z0,z1,z2,z3,z4,z5,z6,z7,-⟩:=zc r;have z:=(l.block (w.1.size+1) g).trans E1;obtain⟨r0,r1,r2,r3,-⟩:=zc z;have rf:=fun j=>zI z j;have a3:(w.1.size+1==Y.1.size)=false:=by simp;omega
 have W:(Y.1.size==w.1.size+1)=false:=by simp;omega
 have a0:¬w.1.size+1=Y.1.size:=by omega
 have a1:¬Y.1.size=w.1.size+1:=by omega
 have EZ:=ze z;have A:=ze l;clear C D F J K m0 m1 m2 y7 r z l;go_wp2_with fail;go_region
 go_wp2_with fail;have hf:=zjQ EZ (I v.2.cl.cnt) (I v.2.cl.sum) (i_ v.2.cl.mn) (i_ v.2.cl.mx);refine bodyPost_ret (v:=.tuple #[I v.2.st,.agg #[I v.2.cl.cnt,I v.2.cl.sum,i_ v.2.cl.mn,i_ v.2.cl.mx]]) (ZA results118 _ _ (w.1.size+1) _ _ _ _ _ rfl rfl hf underlying115 rfl (by kernel_rfl)) rfl ?_;exact⟨rfl,(q.trans (A.mono q.size)).trans (YY (Nat.le_succ _) _ _ _ _)⟩
theorem zgw(h:xK w b c tv lb gb Gl L)(s:Sg)(A:s.wf)(l:zU Gl s=Q ()):
  Calls prog 118 #[(O b),.agg #[I s.t,I s.se,I s.we]] w (Rz w (.tuple #[I 4,clV qL])):=by
 have m:=h.lt;obtain⟨-,-,-,-,-,-,-,y,z⟩:=h.cells;have H:=ze h;obtain⟨x,B,a,C⟩:=box2 w (.cells #[I s.t,I s.se,I s.we] 146) kq;have k:=ze A;have d:=ze l;clear h A l;go_in;go_wp2_with fail;generalize((w.alloc (.cells #[I s.t,I s.se,I s.we] 146)).alloc kq)=X at*;obtain⟨k0,k1,k2,-⟩:=zc x;have x7:=(a.cell (p:=(U b 7)) m).trans y;have x8:=(a.cell (p:=(U b 8)) m).trans z;have J:=zbB d (X:=X) H.gone a k;have K:=zbB d (X:=X.drew) H.gone a.drew k;have N:=fun o=>zbB d (X:=X.alloc o) H.gone (a.alloc a.size o) k;have P:=fun o=>zbB d (X:=(X.alloc o).drew) H.gone (a.alloc a.size o).drew k;have S:=fun o=>zbB d (X:=X.drew.alloc o) H.gone (a.drew.alloc a.drew.size o) k;have F:=ze B;have u:=ze C;have g:=ze a;have Y0:=ze x;clear x B C a y z;have W:b<X.1.size:=by have:=ud u;omega
 have a0:w.1.size<X.1.size:=by have:=ud u;omega
 have f:w.1.size+1<X.1.size:=by have:=ud u;omega
 go_region
 have e:B_ X ((X.alloc zkL).drew):=((G _ _).alloc (E _) _).drew;have n:B_ w ((X.alloc zkL).drew):=g.trans (e.mono g.size);generalize((X.alloc zkL).drew)=Y at*;have q:=(e.block (w.1.size+1) f).trans F;clear J K N P S k0 k1 k2 x7 x8;have V:=e.size;have f:w.1.size+1<Y.1.size:=by omega
 obtain⟨r0,r1,r2,r3,-⟩:=zc q;have rf:=fun j=>zI q j;have r:=ze n;have D:=ze q;clear e n q;go_wp2_with fail;have Z:=xq (i:=3) (xq (i:=2) (xq (i:=1) (xq (i:=0) D (I 0)) (I 0)) (i_ 0)) (i_ 0);refine bodyPost_ret (v:=.tuple #[I 4,.agg #[I 0,I 0,i_ 0,i_ 0]]) (ZA results118 _ _ (w.1.size+1) _ _ _ _ _ rfl rfl Z underlying115 rfl (by kernel_rfl)) rfl ?_;exact⟨rfl,r.trans (below4 (Nat.le_succ _) _ _ _ _)⟩
def stG(Gl:List (Sg×Unit))(L:LV)(s:Sg):SV:=match zU Gl s with
 |none=>stL L s
 |some _=>⟨4,qL⟩
theorem zbO(h:xK w b c tv lb gb Gl L)(s:Sg)(d:s.wf):
  Calls prog 118 #[(O b),.agg #[I s.t,I s.se,I s.we]] w (Rz w (.tuple #[I (stG Gl L s).st,clV (stG Gl L s).cl])):=by
 unfold stG;cases a:zU Gl s with
 |none=>exact zgx h s d a
 |some u=>exact zgw h s d a
theorem Yk(h:xK w b c tv lb gb Gl L)(s:Sg)(g:s.wf):
  Calls prog 121 #[(O b),.agg #[I s.t,I s.se,I s.we]] w (Rz w (.bool ((stG Gl L s).st==0))):=by
 have a:∀o,B_ w (w.alloc o):=fun o=>(G _ _).alloc (E _) _;have f:=fun o=>ze (zbO (h.later (a o)) s g);unfold clV at f;clear h g;generalize stG Gl L s=v at*;go_in;go_wp2_with fail;refine(f _).mono ?_;rintro e w1 ⟨rfl,d⟩;go_wp2_with fail;go_ret;exact⟨rfl,((a _).trans (d.mono (a _).size)).alloc (za (a _).size d.size) _⟩
theorem zpm(v:SX)(W:M):(Instr.field 148 (.agg (xZz v)) 1).run prog W=.ok (I v.2.st) W:=by kernel_rfl
theorem ZR(h:xK w b c tv lb gb Gl L)(s:Sg)(j:s.wf):
  Calls prog 175 #[(O b),.agg #[I s.t,I s.se,I s.we]] w (Rz w (.bool ((stL L s).st==2))):=by
 obtain⟨v,hv⟩:∃v,v=stX L s:=⟨_,rfl⟩;rw[<-zjW,<-hv];have g:=h.lt;obtain⟨-,-,-,-,-,-,-,i,-⟩:=h.cells;have f:∀o,B_ w (w.alloc o):=fun o=>(G _ _).alloc (E _) _;have a:=f (.cells #[I s.t,I s.se,I s.we] 146);have k:=zo w (.cells #[I s.t,I s.se,I s.we] 146);have q:=zE w (.cells #[I s.t,I s.se,I s.we] 146);have e:=fun X l=>J7 (hv:=hv) (X:=X) h.live l j;clear h j hv;go_in;go_wp2_with fail;generalize(w.alloc (.cells #[I s.t,I s.se,I s.we] 146))=X at*;obtain⟨y,z,A,-⟩:=zc k;have B:=(a.cell (p:=(U b 7)) g).trans i;have u:=e X a;have x:=e X.drew a.drew;have r:=zpm v;have n:w.1.size<X.1.size:=by omega
 have m:b<X.1.size:=by omega
 have d:=ze a;clear e k q a i;go_region
 go_wp2_with fail;go_ret;exact⟨rfl,d.drew⟩
attribute [local go_sem] Oper.semAt_some
def VL(c:Cf)(t st:Int)(k:Nat):List (Int×Int):=((List.range k).filter (fun i=>c.F i==t)).map (fun i:Nat=>((i:Int),st/c.W i))
theorem zaY(c:Cf)(t st:Int)(k:Nat):VL c t st (k+1)=if c.F k=t then VL c t st k++[((k:Int),st/c.W k)]else VL c t st k:=by
 unfold VL;rw[List.range_succ,List.filter_append,List.map_append];by_cases h:c.F k=t<;>simp[h]
theorem zeh(c:Cf)(t st:Int)(k:Nat):(VL c t st k).length<=k:=by
 unfold VL;rw[List.length_map];exact za (List.length_filter_le _ _) (by simp)
abbrev WP:={p:Int×Int//xX p.1/\xX p.2}
noncomputable def VI (p:Int×Int):WP:=by classical exact if h:xX p.1/\xX p.2 then⟨p,h⟩else⟨(0,0),by unfold xX;simp⟩
theorem zcx{p:Int×Int}(h:xX p.1/\xX p.2):(VI p).1=p:=by unfold VI;rw[dif_pos h]
theorem zhr(b:c.ok)(a:0<=st/\st<=1000000000){k:Nat}(d:k<c.n):xX (((k:Int),st/c.W k):Int×Int).1/\xX (((k:Int),st/c.W k):Int×Int).2:=by
 obtain⟨w1,w2⟩:=b.W k d;have g:=b.n4;have e:0<=st/c.W k:=Int.ediv_nonneg a.1 (by omega);have f:st/c.W k<=st:=Int.ediv_le_self _ a.1;unfold xX;simp only;omega
structure AR(W:M)(q Bs:Nat)(c:Cf)(a:Option Addr)(cap:Nat)(t st:Int):Prop where
 b0:W.1[q]?=Q (.cells (aZz c a cap) 89 (0,0))
 b1:W.1[q+1]?=Q (.cells #[I t] 3 (0,0))
 b2:W.1[Bs]?=Q (.cells #[I st] 3 (0,0))
 ts:TS W a c.n c.F c.W c.K
theorem AR.later{q Bs:Nat}{cap:Nat}{t:Int}(h:AR W q Bs c a cap t st)(b:B_ W W'):AR W' q Bs c a cap t st:=
 ⟨(b.block _ (zd h.b0)).trans h.b0,(b.block _ (zd h.b1)).trans h.b1,(b.block _ (zd h.b2)).trans h.b2,h.ts.below b⟩
theorem J6(c:Cf)(x:c.ok)(a:Option Addr)(cap:Nat)(t we:Int)(k: -1<=t)(l:t<c.n)(N:0<=we/\we<=100000)(w:M)(h:TS w a c.n c.F c.W c.K):
  Calls prog 236 #[(cZz c a cap),I t,I we] w fun e w'=>∃Bs,e=.returned (.func (.func 264) #[] #[(O w.1.size),(O (w.1.size+1)),(O Bs)])/\AR w' w.1.size Bs c a cap t (we*c.wh t)/\w.1.size<=Bs/\B_ w w':=by
 obtain⟨z,A,g,C⟩:=box2 w (.cells (aZz c a cap) 89) (.cells #[I t] 3);obtain⟨b,m⟩:=x.wh k l;have j:0<=we*c.wh t/\we*c.wh t<=1000000000:=by
  constructor
  ·exact Int.mul_nonneg (by omega) (by omega)
  ·have:=Int.mul_le_mul (show we<=100000 by omega) m (by omega) (by omega);omega
 have y:=x.n4;have d:=ze (kX c.s c.le c.la c.wi c.ke c.qu a c.n cap c.F c.W c.K t k l y _ (h.below g));rw[show xp c.wi c.W t=c.wh t from rfl]at d;have u:=ze h;clear h x;obtain⟨v,hv⟩:∃v,c.wh t=v:=⟨_,rfl⟩;rw[hv]at d j b m ⊢;clear hv;obtain⟨S,-⟩:=zc A;obtain⟨U,V,Y,Z,x4,x5,x6,-⟩:=zc z;have D:=ze z;have H:=ze A;have J:=ze C;have r:=ze g;have B:wrap64 (we*v)=we*v:=by unfold wrap64;omega
 clear z A C g;go_in;go_wp2_with fail;generalize((w.alloc (.cells (aZz c a cap) 89)).alloc (.cells #[I t] 3))=X at*;refine d.mono ?_;rintro e w1 ⟨rfl,i⟩;have q:=ze i;clear i;go_wp2_with fail;go_ret;have p:=ud q;have P:X.1.size=w.1.size+2:=ud J;have L:=p.size;have b:B_ w w1:=r.trans (p.mono (by omega));have f:B_ w1 (w1.alloc (.cells #[I (we*v)] 3)):=(G _ _).alloc (E _) _;have o:=b.trans (f.mono b.size);refine⟨w1.1.size,rfl,⟨(f.block _ (by omega)).trans ((p.block _ (by omega)).trans D),(f.block _ (by omega)).trans ((p.block _ (by omega)).trans H),zo _ _,u.below o⟩,b.size,o⟩
theorem zfp(l q Bs:Nat)(c:Cf)(N:c.ok)(a:Option Addr)(cap:Nat)(t st:Int)(a1:0<=st/\st<=1000000000)(Kp:M->M->Prop)(z:∀A B,Kp A B->AR A q Bs c a cap t st->AR B q Bs c a cap t st)(C:∀A B,Kp A B->A.1.size<=B.1.size)(J Jx:List WP->M->Prop)(hY:∀g x V,J g V->g.length<c.n->YieldAt Fence.wide 5 prog l #[I x.1.1,I x.1.2] V fun e L=>(e=.returned (.bool true)/\J (g++[x]) L/\Kp V L)\/(e=.returned (.bool false)/\Jx (g++[x]) L/\Kp V L))(W:M)(hJ:OwnFrom W.1.size J)(hR:AR W q Bs c a cap t st)(h0:J [] W):
  CallsIn Fence.wide 6 prog 264 #[.func (.yield l) #[] #[],(O q),(O (q+1)),(O Bs)] W fun e W'=>(∃v,e=.returned v)/\
   ((∃xs,xs=(VL c t st c.n).map VI/\J xs W')\/(∃g,True/\Jx g W')):=by
 obtain⟨-,-,-,-,-,-,q6,-⟩:=zc hR.b0;have a6:=N.n4;have a5:=N.n1;have HC:=ze N;have HR:=ze hR;have HJ:=ze hJ;have HY:=ze hY;have U:=ze z;have X:=ze C;clear hR hJ hY z N C;refine callsIn_of_wp func264 rfl trivial ?_ rfl;simp only[ntmps264,sZz,Nat.reduceAdd,Nat.reduceSub];gi_wp2;gi_loopw [5,6,11] (fun _ _ i wr=>∃k:Nat,k<=c.n/\i=I k/\J ((VL c t st k).map VI) wr/\AR wr q Bs c a cap t st/\W.1.size<=wr.1.size)
  (fun _ _ i _=>c.n-(intOf i).toNat)
 case atStart=>exact⟨0,Nat.zero_le _,rfl,h0,HR,E _⟩
 case round=>
  obtain⟨k,hk,rfl,p,f,a3⟩:=hrel;by_cases m:k<c.n
  ·have a2:(k:Int)<c.n:=(by omega);obtain⟨b,off,ha,a4,D⟩:=f.ts (by omega);obtain⟨f0,f1,f2⟩:=D k m;obtain⟨q1,-⟩:=zc f.b1;obtain⟨q2,-⟩:=zc f.b2;have a7:=zd f.b1;have a8:=zd f.b2;have s:=ze f;obtain⟨w1,w2⟩:=HC.W k m;have a9:¬c.W k=0:=(by omega);have HA:=ze ha;subst ha;clear f D;by_cases r:c.F k=t
   ·have Z:(c.F k==t)=true:=(by simpa using r);have d:B_ wr (wr.alloc (.cells #[I (c.F k),I (c.W k),I (c.K k)] 80)):=(G _ _).alloc (E _) _;have u:=xc HJ p d;obtain⟨fn,tmps,assign,body,hy,a0⟩:=ud HY _ (VI ((k:Int),st/c.W k)) _ u (by rw[List.length_map];exact Nat.lt_of_le_of_lt (zeh c t st k) m);rw[zcx (zhr (ud HC) a1 m)]at hy;dsimp only at hy;have HF:=ze r;have o:=ze (s.later d);have H:=d.size;clear r u d;gi_wp2;refine a0.mono ?_;rintro e W3 (⟨rfl,w,j⟩|⟨rfl,y,j⟩)
    ·have Y:=ze (ud U _ _ j o);have aa:=ud X _ _ j;have S:Hid (J ((VL c t st (k+1)).map VI) W3):=(by show J _ W3;rw[zaY,if_pos (ud HF),List.map_append,List.map_singleton];exact w);clear w j;gi_wp2;go_roundw;case rel=>exact⟨k+1,by omega,by simp,ud S,ud Y,by omega⟩
     case measure=>simp[intOf];omega
    ·gi_wp2;refine bodyPost_ret (results_none rfl _ _ _) rfl ?_;exact⟨⟨_,rfl⟩,.inr ⟨_,trivial,y⟩⟩
   ·have Z:(c.F k==t)=false:=(by simpa using r);have d:B_ wr (wr.alloc (.cells #[I (c.F k),I (c.W k),I (c.K k)] 80)):=(G _ _).alloc (E _) _;have P:Hid (J ((VL c t st (k+1)).map VI) (wr.alloc (.cells #[I (c.F k),I (c.W k),I (c.K k)] 80))):=(by show J _ _;rw[zaY,if_neg r];exact xc HJ p d);have o:=ze (s.later d);have H:=d.size;clear r d;gi_wp2;refine⟨fun _ h=>(by cases h),?_⟩;gi_wp2;go_roundw;case rel=>exact⟨k+1,by omega,by simp,ud P,ud o,za (by omega) H⟩
    case measure=>simp[intOf];omega
  ·obtain rfl:k=c.n:=(by omega);gi_wp2;go_end0;exact⟨⟨_,rfl⟩,.inl ⟨_,rfl,p⟩⟩
theorem zhs(q Bs:Nat)(c:Cf)(p:c.ok)(a:Option Addr)(cap:Nat)(t st:Int)(e:0<=st/\st<=1000000000)(Kp:M->M->Prop)(b:∀A B,Kp A B->AR A q Bs c a cap t st->AR B q Bs c a cap t st)(d:∀A B,Kp A B->A.1.size<=B.1.size)(m:Nat)(w:M)(j:AR w q Bs c a cap t st):
  Yy Fence.wide 6 prog 264 #[(O q),(O (q+1)),(O Bs)] (fun x:WP=>#[I x.1.1,I x.1.2]) Kp (fun xs=>xs=(VL c t st c.n).map VI) (fun _=>True) c.n m w:=
 fun l J f W k _ h i o g=>zfp l q Bs c p a cap t st e Kp b d J f o W h (j.later k) g
theorem zaZ:∀args w,(callFunc 264 args).run prog w=.ok (.enter 264 args) w:=enters_of func264 (by kernel_rfl) rfl
attribute [local go_sem] Oper.semAt_some
def kP(c:Cf)(k:Sg):List Sg:=(VL c k.t (k.we*c.wh k.t) c.n).map (fun p=>⟨p.1,k.se,p.2⟩)
noncomputable def Jf (se:Int) (p:WP):WSg:=zkJ ⟨p.1.1,se,p.1.2⟩
theorem Jg{se:Int}(h:xX se)(p:WP):(Jf se p).1=⟨p.1.1,se,p.1.2⟩:=YV ⟨p.2.1,h,p.2.2⟩
structure HR(W:M)(Bp Bk s:Nat)(k:Sg)(c:Cf)(tv:z9)(lb gb:Nat):Prop where
 bp:W.1[Bp]?=Q (.cells #[(O s)] 90 (0,0))
 bk:W.1[Bk]?=Q (.cells #[I k.t,I k.se,I k.we] 146 (0,0))
 hd:vI W s c tv lb gb
theorem HR.later(h:HR W Bp Bk s k c tv lb gb)(a:B_ W W'):HR W' Bp Bk s k c tv lb gb:=
 ⟨(a.block _ (zd h.bp)).trans h.bp,(a.block _ (zd h.bk)).trans h.bk,h.hd.later a⟩
theorem HR.kx(h:HR W Bp Bk s k c tv lb gb)(a:KX ex n m W W')(b:Bp<n/\¬ex Bp)(d:Bk<n/\¬ex Bk)(f:s<n/\¬ex s)(i:∀g,tv.ownBlock=Q g->g<n/\¬ex g):HR W' Bp Bk s k c tv lb gb:=
 ⟨qB a h.bp b.1 b.2,qB a h.bk d.1 d.2,h.hd.kept a.kept (fun e=>e.elim f.2 (by omega)) (fun g j e=>by have:=i g j;exact e.elim this.2 (by omega))⟩
theorem HR.kept(h:HR W Bp Bk s k c tv lb gb)(a:zj f W W')(b:¬f Bp)(d:¬f Bk)(e:¬f s)(i:∀g,tv.ownBlock=Q g->¬f g):HR W' Bp Bk s k c tv lb gb:=
 ⟨a.heap h.bp b,a.heap h.bk d,h.hd.kept a e i⟩
theorem TS.same{B:M}{F W K:Nat->Int}(h:TS A a n F W K)(l:A.1.size<=B.1.size)(f:∀b off,a=Q (U b off)->B.1[b]?=A.1[b]?):TS B a n F W K:=fun d=>by
 obtain⟨b,off,e,k,g⟩:=h d;have c:∀o,B.cell? (U b o)=A.cell? (U b o):=fun o=>by unfold World.cell?;rw[f b off e]
 exact⟨b,off,e,by omega,fun i j=>by rw[c,c,c];exact g i j⟩
theorem VZ(s:Nat)(k:Sg)(w:M):
  Calls prog 178 #[(O s),.agg #[I k.t,I k.se,I k.we]] w fun e w'=>e=.returned (.func (.func 235) #[] #[(O w.1.size),(O (w.1.size+1))])/\w'=(w.alloc (.cells #[(O s)] 90)).alloc (.cells #[I k.t,I k.se,I k.we] 146):=by
 go_in;go_wp2_with fail;go_ret;exact⟨rfl,rfl⟩
structure KY(ex:Nat->Prop)(n m l:Nat)(A B:M):Prop where
 kept:zj (fun k=>ex k\/n<=k) A B
 walk:∀k o,¬ex k->A.1[k]?=Q o->o.isWalk=true->B.1[k]?=Q o
 high:∀k o,k≠l->m<=k->¬zqq o->A.1[k]?=Q o->B.1[k]?=Q o
theorem KY.trans{B C:M}(h:KY ex n m l A B)(k:KY ex n m l B C):KY ex n m l A C:=⟨h.kept.trans k.kept (fun _ _ h=>h),fun i o a b d=>k.walk i o a (h.walk i o a b d) d,fun i o c a hn b=>k.high i o c a hn (h.high i o c a hn b)⟩
theorem KX.y{B:M}(h:KX ex n m A B)(l:Nat):KY ex n m l A B:=⟨h.kept,h.walk,fun k o _=>h.high k o⟩
theorem KY.putObj{o:Obj}(o':Obj)(b:n<=l)(h:W.1[l]?=Q o)(d:o.isWalk=false):KY ex n m l W (W.putObj l o'):=
 ⟨(zj.refl _ _).grown (grownBy_putObj' W l o') (fun k e _=>by cases e;exact .inr b),fun k p f a c=>by
  by_cases e:k=l
  ·subst e;rw[h]at a;cases a;rw[d]at c;cases c
  ·exact(World.putObj_heap_other e).trans a,fun k p b f _ a=>(World.putObj_heap_other b).trans a⟩
theorem zeB(Bp Bk s:Nat)(k:Sg)(c:Cf)(hc:c.ok)(tv:z9)(lb gb:Nat)(a5: -1<=k.t)(d:k.t<c.n)(ai:0<=k.we/\k.we<=100000)(aj:xX k.se)(w:M)(hn:n<=w.1.size)(hR:HR w Bp Bk s k c tv lb gb)(h1:Bp<n/\¬ex Bp)(h2:Bk<n/\¬ex Bk)(h3:s<n/\¬ex s)(h4:∀g,tv.ownBlock=Q g->g<n/\¬ex g):
  Z8 ex n prog 235 #[(O Bp),(O Bk)] (fun x:WSg=>#[.agg #[I x.1.t,I x.1.se,I x.1.we]]) (fun xs=>xs=((VL c k.t (k.we*c.wh k.t) c.n).map VI).map (Jf k.se)) c.n w:=by
 intro m hm l J Jx L hW aQ hJ ae hY h0;have af:=hR.later hW;obtain⟨a,cap,rfl⟩:=zq hR.hd.trow;have aH:=hW.size;have Z:B_ L (L.alloc (.cells #[.func (.yield l) #[] #[]] 206)):=(G _ _).alloc (E _) _;have am:=zo L (.cells #[.func (.yield l) #[] #[]] 206);have al:=zE L (.cells #[.func (.yield l) #[] #[]] 206);have j:=af.later Z;have ac:=xc hJ h0 Z;have ag:=hW.trans (Z.mono aH);have aF:0<=k.we*c.wh k.t/\k.we*c.wh k.t<=1000000000:=by
  obtain⟨aS,aG⟩:=hc.wh a5 d;constructor
  ·exact Int.mul_nonneg (by omega) (by omega)
  ·have:=Int.mul_le_mul (show k.we<=100000 by omega) aG (by omega) (by omega);omega
 have ao:=ze (J6 c hc a cap k.t k.we a5 d ai _ (TS.of_owns j.hd.trow));have a6:=ze (J6 c hc a cap k.t k.we a5 d ai (L.alloc (.cells #[.func (.yield l) #[] #[]] 206)).drew (TS.of_owns j.hd.trow));obtain⟨c0,c1,c2,c3,c4,c5,c6,-,-⟩:=j.hd.cells;have u:=j.hd.lt;obtain⟨p0,-⟩:=zc j.bp;obtain⟨k0,-,k2,-⟩:=zc j.bk;have aD:=zd j.bp;have aa:=zd j.bk;have HC:=ze hc;have ax:=ze j;have aB:=ze am;have az:=ze al;have au:=ze ac;have HJ:=ze hJ;have a7:=ze ae;have HY:=ze hY;have a9:=ze ag;have aw:=ze aj;clear hR af j am al ac hJ ae hY Z ag hc h0 aj;refine callsIn_wide.2 ((callsIn_wide (n:=7)).1 ?_);refine callsIn_of_wp_marks func235 rfl trivial ?_ rfl;simp only[ntmps235,sZz,Nat.reduceAdd,Nat.reduceSub];refine wpIn_wide.2 ?_;go_wp2_with fail;generalize(L.alloc (.cells #[.func (.yield l) #[] #[]] 206))=X at*;go_region_held3 (fun w'=>w'.cell? (U Bp 0)=Q (O s)/\w'.cell? (U s 0)=Q (I c.s)/\w'.cell? (U s 1)=Q (I c.le)/\w'.cell? (U s 2)=Q (I c.la)/\w'.cell? (U s 3)=Q (I c.wi)/\w'.cell? (U s 4)=Q (I c.ke)/\w'.cell? (U s 5)=Q (I c.qu)/\w'.cell? (U s 6)=Q (.slice a c.n cap)/\w'.cell? (U Bk 0)=Q (I k.t)/\w'.cell? (U Bk 2)=Q (I k.we)) (go_keep) (first
  |(go_at_call 236;(first|refine ao.mono ?_|refine a6.mono ?_);rintro e C ⟨Bs,rfl,N,ab,i⟩;have d0:=(i.cell (p:=(U Bp 0)) aD).trans p0;have d1:=(i.cell (p:=(U s 0)) u).trans c0;have d2:=(i.cell (p:=(U s 1)) u).trans c1;have d3:=(i.cell (p:=(U s 2)) u).trans c2;have d4:=(i.cell (p:=(U s 3)) u).trans c3;have d5:=(i.cell (p:=(U s 4)) u).trans c4;have d6:=(i.cell (p:=(U s 5)) u).trans c5;have d7:=(i.cell (p:=(U s 6)) u).trans c6;have d8:=(i.cell (p:=(U Bk 0)) aa).trans k0;have d9:=(i.cell (p:=(U Bk 2)) aa).trans k2;have ap:=ze N;have H:=ze i;clear N i))
 go_wp2_with fail;have an:X.1.size=L.1.size+1:=ud az;have P:B_ X C:=⟨H.os,H.tape,H.output,H.size,H.block⟩;have N:AR C X.1.size Bs c a cap k.t (k.we*c.wh k.t):=ud ap;have aJ:X.1.size<=Bs:=ab;have aL:=P.size;have HV:=ze P;have v:=ze N;have aK:=ze (a9.trans (P.mono a9.size));have av:=ze (xc HJ au ⟨P.os,P.tape,P.output,P.size,P.block⟩);have a8:=ze (ax.later P);have aC:=ze ((P.block _ (by omega)).trans aB);obtain⟨g,aI,ah,aO,aP⟩:=a8.hd.trow.form (by have:=HC.n1;omega);have S:a=Q (U g 0):=by injection ah
 have aE:=h4 g (by rw[S];rfl);have aT:=zd v.b1;have aU:=zd v.b2;have aR:m<=C.1.size:=by omega
 have aM:L.1.size<C.1.size:=by omega
 clear d0 d1 d2 d3 d4 d5 d6 d7 d8 d9 c0 c1 c2 c3 c4 c5 c6 p0 k0 k2 ah ab N P;refine(wpIn_wide (n:=7)).1 ?_;refine yk (F:=Fence.wide) (n:=7) (m:=0) rfl (by omega) (gf:=264) (lb:=#[(O X.1.size),(O (X.1.size+1)),(O Bs)]) rfl trivial zaZ
  (zhs X.1.size Bs c HC a cap k.t (k.we*c.wh k.t) aF (KY ex n m (C.1.size+1)) (fun A B hk hA=>⟨hk.high _ _ (by omega) (by omega) (fun⟨_,_,e⟩=>by cases e) hA.b0,hk.high _ _ (by omega) (by omega) (fun⟨_,_,e⟩=>by cases e) hA.b1,hk.high _ _ (by have:=zd v.b2;omega) (by omega) (fun⟨_,_,e⟩=>by cases e) hA.b2,TS.same hA.ts hk.kept.size (fun b off e=>by rw[S]at e;injection e with e;injection e with e1 e2;subst e1;exact hk.kept.block _ (by have:=hA.ts;obtain⟨b',o',e3,h5,_⟩:=this (by have:=HC.n1;omega);rw[S]at e3;injection e3 with e3;injection e3 with e3 _;rw[e3];exact h5) (fun e=>e.elim aE.2 (by omega)))⟩) (fun A B hk=>hk.kept.size) 0 C v) (Nat.zero_le _) (fun h k=>h.trans k) (fun W o o' h hc hw=>KY.putObj o' (by omega) h hw) (G _ _) (fun _=>rfl)
  (fun z W=>J (z.map (Jf k.se)) W/\HR W Bp Bk s k c (.slice a c.n cap) lb gb/\W.1[L.1.size]?=Q (.cells #[.func (.yield l) #[] #[]] 206 (0,0))/\C.1.size<=W.1.size)
  (fun c z W=>c=.ret/\∃q,Jx q W)
  (fun s A B row hs V Y=>⟨ud HJ _ A B row hs.1 V (fun r e=>⟨by have:=(Y r e).1;omega,(Y r e).2⟩),hs.2.1.kept (f:=fun k=>C.1.size<=k) ⟨V.os,V.tape,V.output,V.size,fun k hk hn=>V.block k hk (fun e=>hn (Y k e.symm).1)⟩ (by have:=h1.1;omega) (by have:=h2.1;omega) (by have:=h3.1;omega) (fun g hh=>by have:=(h4 g hh).1;omega),zH hs.2.2.1 V (fun r e=>(Y r e).2),za hs.2.2.2 V.size⟩)
  (fun c s A B row hs V Y=>⟨hs.1,by obtain⟨q,hq⟩:=hs.2;exact⟨q,ud a7 q A B row hq V (fun r e=>⟨by have:=(Y r e).1;omega,(Y r e).2⟩)⟩⟩)
  ⟨av,a8,aC,E _⟩
  (fun x a' W=>a'={tmps:=#[.func (.yield l) #[] #[],(O Bp),(O Bk),(O L.1.size),I x.1.1,I x.1.2,(O s),(O s),(O s),(cZz c a cap),(O Bk),I k.t,.pointer (Q (U Bk 2)),I k.we,.func (.func 264) #[] #[(O X.1.size),(O (X.1.size+1)),(O Bs)],I x.1.1,I x.1.2,u_,u_,u_,u_,u_,u_,u_,u_],defers:=[]})
  (fun x a' s A B row hs V Y=>hs) ?assign ?body ?done ?stop
 case assign=>
  rintro l' z x W K hi hK;have HK:=ze hK;have HI:=ze hi;clear hK hi an S;gi_wp2;exact ud HK _ _ (KeepsFrom.refl _ _) ((KX.refl _ _ _ _).y _) HI rfl
 case body=>
  rintro l' z x a' W hl ⟨r,Y⟩ ⟨i1,i2,i3,i4⟩ rfl ak;have aN:=zd i2.bk;have aV:=zd i3;obtain⟨-,k1,-⟩:=zc i2.bk;obtain⟨y0,-⟩:=zc i3;obtain⟨fn,tmps,assign,body,hy,hR⟩:=vG (m':=4) rfl (ud HY (z.map (Jf k.se)) (Jf k.se x) W i1 (by rw[List.length_map];exact ak));rw[Jg (ud aw)]at hy;dsimp only at hy;have aq:=ze i2;have ar:=ze i3;clear i1 i2 i3 Y an S;gi_wp2;refine RoundIn.mono (F:=Fence.wide.inRound l') hR ?_;rintro e W2 (⟨rfl,ad,d⟩|⟨rfl,a0,d⟩)
  ·have a3:=ze (d.from (q:=C.1.size) (by omega));have a4:=ze (d.y (C.1.size+1));have ay:=ze (aq.kx d h1 h2 h3 h4);have aA:=ze (d.high _ _ (by omega) (fun⟨_,_,e⟩=>by cases e) ar);have aW:=d.kept.size;have a1:=ze ad;clear ad d;gi_wp2;exact⟨ud a3,ud a4,by rw[List.map_append,List.map_singleton];exact ud a1,ay,aA,by omega⟩
  ·have a3:=ze (d.from (q:=C.1.size) (by omega));have a4:=ze (d.y (C.1.size+1));have a1:=ze a0;clear a0 d;gi_wp2;exact⟨a3,a4,rfl,_,a1⟩
 case done=>
  rintro D xs W hD hS ⟨i1,-,-,-⟩ hK;have a2:=ze (OwnFrom.putObj HJ (.deferred none) i1 (by omega) hK rfl);subst hS;clear i1;gi_wp2;refine⟨by simp,.inl ⟨_,_,rfl,run_takeDeferred hK,?_⟩⟩;exact⟨_,results_none rfl _ _ _,⟨_,rfl⟩,.inl ⟨_,rfl,a2⟩⟩
 case stop=>
  rintro D c z W hD hS ⟨rfl,q,hq⟩ hK;have a2:=ze (OwnFrom.putObj a7 (.deferred none) hq (by omega) hK rfl);clear hq;gi_wp2;refine⟨by simp,.inl ⟨_,_,rfl,run_takeDeferred hK,?_⟩⟩;exact⟨_,results_none rfl _ _ _,⟨_,rfl⟩,.inr ⟨_,trivial,a2⟩⟩
theorem Kt:∀args w,(callFunc 235 args).run prog w=.ok (.enter 235 args) w:=enters_of func235 (by kernel_rfl) rfl
def jd(c:Cf)(Bl:List (Sg×Unit))(L:LV)(now:Int)(k:Sg):Bool:=(zU Bl k).isNone&&((stL L k).st==2)&&decide ((k.we+1)*c.wh k.t<=now-c.la)
theorem zaB(h:xK w s c tv lb gb Gl L)(hc:c.ok)(B:xn jE w ob Bl)(k:Sg)(hk:k.wf)(V: -1<=k.t)(Y:k.t<c.n)(Z:0<=k.we/\k.we<=100000)(now:Int)(A:0<=now/\now<=100000)(D Bp r:Nat)(b1:w.cell? (U D 0)=Q (.map (Q ob)))(b2:w.cell? (U Bp 0)=Q (O s))(b3:w.cell? (U r 0)=Q (I now))(l1:D<w.1.size)(l2:Bp<w.1.size)(l3:r<w.1.size):
  Calls prog 174 #[.agg #[I k.t,I k.se,I k.we],(O D),(O Bp),(O r)] w (Rz w (.bool (jd c Bl L now k))):=by
 obtain⟨a,cap,rfl⟩:=zq h.trow;have f:=h.lt;have g:B_ w (w.alloc (.cells #[I k.t,I k.se,I k.we] 146)):=(G _ _).alloc (E _) _;have y0:=zo w (.cells #[I k.t,I k.se,I k.we] 146);have yz:=zE w (.cells #[I k.t,I k.se,I k.we] 146);obtain⟨c0,c1,c2,c3,c4,c5,c6,-,-⟩:=h.cells;have i:=fun W P=>ze (ZR (h.later (w':=W) P) k hk);have x:=fun W P=>ze (KI c hc a cap k.t k.we now V Y Z A W ((TS.of_owns h.trow).below (w':=W) P));obtain⟨v,hv⟩:∃v,stL L k=v:=⟨_,rfl⟩;obtain⟨d,S⟩:∃d,decide ((k.we+1)*c.wh k.t<=now-c.la)=d:=⟨_,rfl⟩;have H:Hid (jd c Bl L now k=((zU Bl k).isNone&&(v.st==2)&&d)):=by show jd c Bl L now k=_;unfold jd;rw[hv,S]
 rw[ud H];rw[hv]at i;rw[S]at x;have F:=fun X z=>kV Xv true (B.later (w':=X) z) hk;clear h B hc hv S;cases hg:zU Bl k;case' some u=>
  have K:∀X,B_ w X->(Instr.lookup 153 (.map (Q ob)) (.agg #[I k.t,I k.se,I k.we]) true).run prog X=.ok (.tuple #[.agg #[],.bool true]) X:=fun X z=>by have:=F X z;rw[hg]at this;exact this
 case' none=>
  have K:∀X,B_ w X->(Instr.lookup 153 (.map (Q ob)) (.agg #[I k.t,I k.se,I k.we]) true).run prog X=.ok (.tuple #[.agg #[],.bool false]) X:=fun X z=>by have:=F X z;rw[hg]at this;exact this
  cases j:(v.st==2);case' false=>
   rw[j]at i;clear j
  case' true=>
   rw[j]at i;clear j;cases d
 all_goals
  have q0:=K _ g
  obtain⟨k0,k1,k2,-⟩:=zc y0
  have m1:=(g.cell (p:=(U D 0)) l1).trans b1
  have q:R (w.1.size+1) (w.alloc (.cells #[I k.t,I k.se,I k.we] 146)) ((w.alloc (.cells #[I k.t,I k.se,I k.we] 146)).alloc zkL):=(G _ _).alloc (by rw[yz];omega) _
  have e:B_ w ((w.alloc (.cells #[I k.t,I k.se,I k.we] 146)).alloc zkL):=g.trans (q.mono (by omega))
  have C:((w.alloc (.cells #[I k.t,I k.se,I k.we] 146)).alloc zkL).1.size=w.1.size+2:=by rw[zE,yz]
  have y2:=(q.block w.1.size (by omega)).trans y0
  obtain⟨z0,z1,z2,-⟩:=zc y2
  have n2:=(e.cell (p:=(U Bp 0)) l2).trans b2
  have n3:=(e.cell (p:=(U r 0)) l3).trans b3
  have s0:=(e.cell (p:=(U s 0)) f).trans c0
  have s1:=(e.cell (p:=(U s 1)) f).trans c1
  have s2:=(e.cell (p:=(U s 2)) f).trans c2
  have s3:=(e.cell (p:=(U s 3)) f).trans c3
  have s4:=(e.cell (p:=(U s 4)) f).trans c4
  have s5:=(e.cell (p:=(U s 5)) f).trans c5
  have s6:=(e.cell (p:=(U s 6)) f).trans c6
  have l:=ze e
  have J:=ze C
  clear F K g y0 yz b1 b2 b3 q e y2 C c0 c1 c2 c3 c4 c5 c6
  go_in
  go_wp2_with fail
  have r1:w.1.size<w.1.size+2:=by omega
  have r2:Bp<w.1.size+2:=by omega
  have r3:r<w.1.size+2:=by omega
  have r4:s<w.1.size+2:=by omega
  have m:Hid (w.1.size<=w.1.size+2):=by show w.1.size<=w.1.size+2;omega
  clear k0 k1 k2 m1 q0
  generalize((w.alloc (.cells #[I k.t,I k.se,I k.we] 146)).alloc zkL)=X at*
  generalize w.1.size+2=N at*
  have y:Hid (N<=X.1.size):=by show N<=X.1.size;rw[ud J];exact E _
  have a1:Nonempty (zm N X):=zm.some _ _
  have a0:=fun(u:zm N X) b o h=>u.cell b o h
  refine zh N (by kernel_rfl) (by kernel_rfl) ?_
  repeat(go_big_quiet_step (first
   |(go_at_call 175;exact Calls.later y (ud (i _ (l.trans (Below.mono (Subtype.property _) m)))))
   |(go_at_call 117;exact Calls.later y (ud (x _ (l.trans (Below.mono (Subtype.property _) m)))))))
  refine wpQuiet_nil ?_
  rintro⟨w1,g⟩
  clear a0 a1
  dsimp only
  go_wp2_with fail
  go_ret
  exact⟨rfl,l.trans (g.mono m)⟩
noncomputable def jx (c:Cf) (k:Sg):List WSg:=((VL c k.t (k.we*c.wh k.t) c.n).map VI).map (Jf k.se)
theorem zbq(c:Cf)(k:Sg):(jx c k).length<=c.n:=by unfold jx;rw[List.length_map,List.length_map];exact zeh _ _ _ _
noncomputable def Yd (c:Cf) (L:LV) (k:Sg):Bool:=((((jx c k).filter (fun x=>(stL L x.1).st==2)).length:Int)==0)
noncomputable def ja (c:Cf) (L:LV) (now:Int) (k:Sg):Bool:=!((stL L k).st==2)&&decide ((k.we+1)*c.wh k.t+c.keep k.t<=now)&&Yd c L k
theorem zjb{base:Nat}{e:TypeId}{size:Nat}{v:z9}{xs:List z9}(h:w.ownsRow base e size v n xs):∀k,v.ownBlock=Q k->k<w.1.size:=fun k c=>by obtain⟨a,b⟩:=zG h c;exact zd b
theorem Yx:∀args w,(callFunc 175 args).run prog w=.ok (.enter 175 args) w:=enters_of func175 (by kernel_rfl) rfl
theorem zfL(h:xK w s c tv lb gb Gl L)(o:c.ok)(k:Sg)(v:k.wf)(i: -1<=k.t)(j:k.t<c.n)(l:0<=k.we/\k.we<=100000):
  Calls prog 119 #[.func (.func 235) #[] #[(O w.1.size),(O (w.1.size+1))],.func (.func 175) #[(O s)] #[]] ((w.alloc (.cells #[(O s)] 90)).alloc (.cells #[I k.t,I k.se,I k.we] 146)) fun e w'=>e=.returned (I ((jx c k).filter (fun x=>(stL L x.1).st==2)).length)/\R ((w.alloc (.cells #[(O s)] 90)).alloc (.cells #[I k.t,I k.se,I k.we] 146)).1.size ((w.alloc (.cells #[(O s)] 90)).alloc (.cells #[I k.t,I k.se,I k.we] 146)) w':=by
 obtain⟨z,A,d,b⟩:=box2 w (.cells #[(O s)] 90) (.cells #[I k.t,I k.se,I k.we] 146);have m:=h.later d;have y:=h.lt;have a:∀g,tv.ownBlock=Q g->g<w.1.size:=fun g f=>zjb h.trow g f;refine(zhN (fun x:WSg=>x.1) 235 _ Kt 175 #[(O s)] #[] Yx (fun x=>(stL L x.1).st==2) _ (fun x W q=>ZR (m.later q) x.1 x.2)
  (zeB (ex:=fun _=>False) w.1.size (w.1.size+1) s k c o tv lb gb i j l v.2.1 _ (E _) ⟨z,A,m.hd⟩ ⟨by rw[b];omega,fun e=>e⟩ ⟨by rw[b];omega,fun e=>e⟩ ⟨by rw[b];omega,fun e=>e⟩ (fun g f=>⟨by have:=a g f;rw[b];omega,fun e=>e⟩))
  (fun xs e=>by rw[e];have:=zbq c k;have:=o.n4;unfold jx at*;omega)).mono ?_
 rintro e w' ⟨xs,p,u,r⟩;subst p;exact⟨u,r⟩
theorem YF(h:xK w s c tv lb gb Gl L)(hc:c.ok)(k:Sg)(hk:k.wf)(bk: -1<=k.t)(bl:k.t<c.n)(aP:0<=k.we/\k.we<=100000)(now:Int)(bm:0<=now/\now<=100000)(Bp Bn:Nat)(b2:w.cell? (U Bp 0)=Q (O s))(b3:w.cell? (U Bn 0)=Q (I now))(l2:Bp<w.1.size)(l3:Bn<w.1.size):
  Calls prog 176 #[.agg #[I k.t,I k.se,I k.we],(O Bp),(O Bn)] w (Rz w (.bool (ja c L now k))):=by
 obtain⟨a,cap,rfl⟩:=zq h.trow;have K:=h.lt;have j:B_ w (w.alloc (.cells #[I k.t,I k.se,I k.we] 146)):=(G _ _).alloc (E _) _;have y0:=zo w (.cells #[I k.t,I k.se,I k.we] 146);have yz:=zE w (.cells #[I k.t,I k.se,I k.we] 146);obtain⟨c0,c1,c2,c3,c4,c5,c6,-,-⟩:=h.cells;have D:=fun W hW=>ze (ZR (h.later (w':=W) hW) k hk);have Z:=fun W hW=>ze (zbz c hc a cap k.t k.we bk bl aP W ((TS.of_owns h.trow).below (w':=W) hW));have aJ:=fun W=>ze (VZ s k W);have ae:=fun W hW=>ze (zfL (h.later (w':=W) hW) hc k hk bk bl aP);obtain⟨v,hv⟩:∃v,stL L k=v:=⟨_,rfl⟩;obtain⟨u,hu⟩:∃u,(k.we+1)*c.wh k.t+c.keep k.t=u:=⟨_,rfl⟩;obtain⟨q,hq⟩:∃q:Nat,((jx c k).filter (fun x=>(stL L x.1).st==2)).length=q:=⟨_,rfl⟩;have bp:Hid (ja c L now k=(!(v.st==2)&&decide (u<=now)&&((q:Int)==0))):=by show ja c L now k=_;unfold ja Yd;rw[hv,hu,hq]
 rw[ud bp];rw[hv]at D;rw[hu]at Z;rw[hq]at ae;have ba:=(j.cell (p:=(U Bp 0)) l2).trans b2;have bb:=(j.cell (p:=(U Bn 0)) l3).trans b3;have bc:=(j.cell (p:=(U s 0)) K).trans c0;have bd:=(j.cell (p:=(U s 1)) K).trans c1;have be:=(j.cell (p:=(U s 2)) K).trans c2;have bf:=(j.cell (p:=(U s 3)) K).trans c3;have bg:=(j.cell (p:=(U s 4)) K).trans c4;have bh:=(j.cell (p:=(U s 5)) K).trans c5;have bi:=(j.cell (p:=(U s 6)) K).trans c6;obtain⟨bj,aG,aH,-⟩:=zc y0;have y:s<(w.alloc (.cells #[I k.t,I k.se,I k.we] 146)).1.size:=by rw[yz];omega
 have ac:Bp<(w.alloc (.cells #[I k.t,I k.se,I k.we] 146)).1.size:=by rw[yz];omega
 have ad:Bn<(w.alloc (.cells #[I k.t,I k.se,I k.we] 146)).1.size:=by rw[yz];omega
 have J:w.1.size<(w.alloc (.cells #[I k.t,I k.se,I k.we] 146)).1.size:=by rw[yz];omega
 have C:=ze j;have af:=D _ j;have P:=D (w.alloc (.cells #[I k.t,I k.se,I k.we] 146)).drew j.drew;clear h hc hv hu hq b2 b3 j y0 yz c0 c1 c2 c3 c4 c5 c6 aP hk bm;cases ag:(v.st==2)with
 |true=>
  rw[ag]at D
  clear ag af P
  have aM:Hid ((w.alloc (.cells #[I k.t,I k.se,I k.we] 146)).1.size=w.1.size+1):=zE w _
  go_in
  go_wp2_with fail
  have r1:w.1.size<w.1.size+1:=by omega
  have r2:Bp<w.1.size+1:=by omega
  have r3:Bn<w.1.size+1:=by omega
  have r4:s<w.1.size+1:=by omega
  have H:Hid (w.1.size<=w.1.size+1):=by show w.1.size<=w.1.size+1;omega
  clear y ac ad J
  generalize(w.alloc (.cells #[I k.t,I k.se,I k.we] 146))=X at*
  generalize w.1.size+1=N at*
  have a1:Hid (N<=X.1.size):=by show N<=X.1.size;rw[ud aM];exact E _
  have aR:Nonempty (zm N X):=zm.some _ _
  have aQ:=fun(u:zm N X) b o h=>u.cell b o h
  refine zh N (by kernel_rfl) (by kernel_rfl) ?_
  repeat(go_big_quiet_step (first
   |(go_at_call 175;exact Calls.later a1 (ud (D _ (C.trans (Below.mono (Subtype.property _) H)))))
   |(go_at_call 177;exact Calls.later a1 (ud (Z _ (C.trans (Below.mono (Subtype.property _) H)))))))
  refine wpQuiet_nil ?_
  rintro⟨w1,j⟩
  clear aQ aR
  dsimp only
  go_wp2_with fail
  go_ret
  exact⟨rfl,C.trans (j.mono H)⟩
 |false=>
  rw[ag]at D af P
  clear ag
  by_cases bn:u<=now
  ·have hd:decide (u<=now)=true:=by simpa using bn
   rw[hd]
   clear D
   go_in
   go_wp2_with fail
   generalize(w.alloc (.cells #[I k.t,I k.se,I k.we] 146))=X at*
   go_region_held3 (fun w'=>w'.cell? (U Bp 0)=Q (O s)/\w'.cell? (U Bn 0)=Q (I now)/\w'.cell? (U s 0)=Q (I c.s)/\w'.cell? (U s 1)=Q (I c.le)/\w'.cell? (U s 2)=Q (I c.la)/\w'.cell? (U s 3)=Q (I c.wi)/\w'.cell? (U s 4)=Q (I c.ke)/\w'.cell? (U s 5)=Q (I c.qu)/\w'.cell? (U s 6)=Q (.slice a c.n cap)/\w'.cell? (U w.1.size 0)=Q (I k.t)/\w'.cell? (U w.1.size 1)=Q (I k.se)/\w'.cell? (U w.1.size 2)=Q (I k.we)) (go_keep) (first
    |(go_at_call 175;(first|refine af.mono ?_|refine P.mono ?_);rintro e V1 ⟨rfl,z⟩;have d:B_ X V1:=⟨z.os,z.tape,z.output,z.size,z.block⟩;have a6:=d.size;have l:=T y a6;have a4:=T ac a6;have a5:=T ad a6;have F:=T J a6;have ai:=(d.cell (p:=(U Bp 0)) ac).trans ba;have aj:=(d.cell (p:=(U Bn 0)) ad).trans bb;have ak:=(d.cell (p:=(U s 0)) y).trans bc;have al:=(d.cell (p:=(U s 1)) y).trans bd;have am:=(d.cell (p:=(U s 2)) y).trans be;have an:=(d.cell (p:=(U s 3)) y).trans bf;have ao:=(d.cell (p:=(U s 4)) y).trans bg;have ap:=(d.cell (p:=(U s 5)) y).trans bh;have aq:=(d.cell (p:=(U s 6)) y).trans bi;have ar:=(d.cell (p:=(U w.1.size 0)) J).trans bj;have a2:=(d.cell (p:=(U w.1.size 1)) J).trans aG;have a3:=(d.cell (p:=(U w.1.size 2)) J).trans aH;have V:=C.trans (d.mono C.size);have aU:=Z V1 V;have aK:=Z V1.drew V.drew;have ah:=ze V;clear z d V a6 Z ba bb bc bd be bf bg bh bi bj aG aH y ac ad J)
    |(go_at_call 177;(first|refine aU.mono ?_|refine aK.mono ?_);rintro e V2 ⟨rfl,A⟩;have f:B_ V1 V2:=⟨A.os,A.tape,A.output,A.size,A.block⟩;have a9:=f.size;have m:=T l a9;have aE:=T a4 a9;have aF:=T a5 a9;have S:=T F a9;have au:=(f.cell (p:=(U Bp 0)) a4).trans ai;have av:=(f.cell (p:=(U Bn 0)) a5).trans aj;have aw:=(f.cell (p:=(U s 0)) l).trans ak;have ax:=(f.cell (p:=(U s 1)) l).trans al;have ay:=(f.cell (p:=(U s 2)) l).trans am;have az:=(f.cell (p:=(U s 3)) l).trans an;have aA:=(f.cell (p:=(U s 4)) l).trans ao;have aB:=(f.cell (p:=(U s 5)) l).trans ap;have aC:=(f.cell (p:=(U s 6)) l).trans aq;have aD:=(f.cell (p:=(U w.1.size 0)) F).trans ar;have a7:=(f.cell (p:=(U w.1.size 1)) F).trans a2;have a8:=(f.cell (p:=(U w.1.size 2)) F).trans a3;have Y:=ah.trans (f.mono ah.size);have aV:=aJ V2;have aL:=aJ V2.drew;have aT:=ae V2 Y;have aI:=ae V2.drew Y.drew;have a0:=ze Y;clear A f Y a9 ae aJ ai aj ak al am an ao ap aq ar a2 a3 l a4 a5 F)
    |(go_at_call 178;(first|refine aV.mono ?_|refine aL.mono ?_);rintro e V3 ⟨rfl,rfl⟩;obtain⟨-,-,g,-⟩:=box2 V2 (.cells #[(O s)] 90) (.cells #[I k.t,I k.se,I k.we] 146);have ab:=g.size;have r:=T m ab;have b8:=T aE ab;have b9:=T aF ab;have aa:=T S ab;have aW:=(g.cell (p:=(U Bp 0)) aE).trans au;have aX:=(g.cell (p:=(U Bn 0)) aF).trans av;have aY:=(g.cell (p:=(U s 0)) m).trans aw;have aZ:=(g.cell (p:=(U s 1)) m).trans ax;have b0:=(g.cell (p:=(U s 2)) m).trans ay;have b1:=(g.cell (p:=(U s 3)) m).trans az;have b4:=(g.cell (p:=(U s 4)) m).trans aA;have b5:=(g.cell (p:=(U s 5)) m).trans aB;have b6:=(g.cell (p:=(U s 6)) m).trans aC;have b7:=(g.cell (p:=(U w.1.size 0)) S).trans aD;have aN:=(g.cell (p:=(U w.1.size 1)) S).trans a7;have aO:=(g.cell (p:=(U w.1.size 2)) S).trans a8;have aS:=ze g;clear ab g au av aw ax ay az aA aB aC aD a7 a8)
    |(go_at_call 119;(first|refine aT.mono ?_|refine aI.mono ?_);rintro e V4 ⟨rfl,B⟩;have i:R ((V2.alloc (.cells #[(O s)] 90)).alloc (.cells #[I k.t,I k.se,I k.we] 146)).1.size ((V2.alloc (.cells #[(O s)] 90)).alloc (.cells #[I k.t,I k.se,I k.we] 146)) V4:=⟨B.os,B.tape,B.output,B.size,B.block⟩;have bs:=(i.cell (p:=(U Bp 0)) b8).trans aW;have bt:=(i.cell (p:=(U Bn 0)) b9).trans aX;have bu:=(i.cell (p:=(U s 0)) r).trans aY;have bv:=(i.cell (p:=(U s 1)) r).trans aZ;have bw:=(i.cell (p:=(U s 2)) r).trans b0;have bx:=(i.cell (p:=(U s 3)) r).trans b1;have bz:=(i.cell (p:=(U s 4)) r).trans b4;have bA:=(i.cell (p:=(U s 5)) r).trans b5;have bB:=(i.cell (p:=(U s 6)) r).trans b6;have bC:=(i.cell (p:=(U w.1.size 0)) aa).trans b7;have bq:=(i.cell (p:=(U w.1.size 1)) aa).trans aN;have br:=(i.cell (p:=(U w.1.size 2)) aa).trans aO;have bo:=ze i;clear B i))
   all_goals(go_wp2_with fail)
   all_goals go_ret
   all_goals(exact⟨rfl,(a0.trans (aS.mono a0.size)).trans (bo.mono (za a0.size aS.size))⟩)
  ·have hd:decide (u<=now)=false:=by simpa using bn
   rw[hd]
   clear af P
   have aM:Hid ((w.alloc (.cells #[I k.t,I k.se,I k.we] 146)).1.size=w.1.size+1):=zE w _
   go_in
   go_wp2_with fail
   have r1:w.1.size<w.1.size+1:=by omega
   have r2:Bp<w.1.size+1:=by omega
   have r3:Bn<w.1.size+1:=by omega
   have r4:s<w.1.size+1:=by omega
   have H:Hid (w.1.size<=w.1.size+1):=by show w.1.size<=w.1.size+1;omega
   clear y ac ad J
   generalize(w.alloc (.cells #[I k.t,I k.se,I k.we] 146))=X at*
   generalize w.1.size+1=N at*
   have a1:Hid (N<=X.1.size):=by show N<=X.1.size;rw[ud aM];exact E _
   have aR:Nonempty (zm N X):=zm.some _ _
   have aQ:=fun(u:zm N X) b o h=>u.cell b o h
   refine zh N (by kernel_rfl) (by kernel_rfl) ?_
   repeat(go_big_quiet_step (first
    |(go_at_call 175;exact Calls.later a1 (ud (D _ (C.trans (Below.mono (Subtype.property _) H)))))
    |(go_at_call 177;exact Calls.later a1 (ud (Z _ (C.trans (Below.mono (Subtype.property _) H)))))))
   refine wpQuiet_nil ?_
   rintro⟨w1,j⟩
   clear aQ aR
   dsimp only
   go_wp2_with fail
   go_ret
   exact⟨rfl,C.trans (j.mono H)⟩
attribute [local go_sem] Oper.semAt_some
def inR(c:Cf)(s:Sg):Prop:=s.wf/\ -1<=s.t/\s.t<c.n/\0<=s.we/\s.we<=100000
abbrev RSg(c:Cf):={s:Sg//inR c s}
theorem zlo(c:Cf):inR c ⟨-1,0,0⟩:=⟨by refine⟨?_,?_,?_⟩<;>(unfold xX;simp),by simp,by show(-1:Int)<c.n;omega,by simp,by simp⟩
noncomputable def zgC (c:Cf) (s:Sg):RSg c:=by classical exact if h:inR c s then⟨s,h⟩else⟨⟨-1,0,0⟩,zlo c⟩
theorem vv{s:Sg}(h:inR c s):(zgC c s).1=s:=by unfold zgC;rw[dif_pos h]
theorem Zt(g:c.ok)(a:inR c k)(x:Sg):x∈(jx c k).map (·.1)↔x∈kP c k:=by
 have d:0<=k.we*c.wh k.t/\k.we*c.wh k.t<=1000000000:=by
  obtain⟨l,f⟩:=g.wh a.2.1 a.2.2.1;have m:=a.2.2.2;constructor
  ·exact Int.mul_nonneg (by omega) (by omega)
  ·have:=Int.mul_le_mul (show k.we<=100000 by omega) f (by omega) (by omega);omega
 have e:(jx c k).map (·.1)=kP c k:=by
  unfold jx kP;rw[List.map_map,List.map_map];apply List.map_congr_left;intro p h;unfold VL at h;obtain⟨i,j,rfl⟩:=List.mem_map.1 h;have b:i<c.n:=by have:=(List.mem_filter.1 j).1;simpa using this
  simp only[Function.comp];rw[Jg a.1.2.1,zcx (zhr g d b)]
 rw[e]
theorem zpA(h:xn jE X ob Bl)(a:Bl.length<maxLen){s:Sg}(b:s.wf):
  ∃o,(Instr.mapUpdate 153 (.map (Q ob)) (.agg #[I s.t,I s.se,I s.we]) (.agg #[])).run prog X=.ok () (setBlock X ob o)/\xn jE (setBlock X ob o) ob (qM Bl s ())/\zj (fun k=>k=ob) X (setBlock X ob o)/\o.isCells=false:=
 jJ Xv h a b ()
theorem zmI(w:M)(a b c:Obj):(((w.alloc a).alloc b).alloc c).1[w.1.size]?=Q a/\(((w.alloc a).alloc b).alloc c).1[w.1.size+1]?=Q b/\(((w.alloc a).alloc b).alloc c).1[w.1.size+2]?=Q c/\B_ w (((w.alloc a).alloc b).alloc c)/\(((w.alloc a).alloc b).alloc c).1.size=w.1.size+3:=by
 obtain⟨e,f,g,d⟩:=box2 w a b;refine⟨(Below.heap_alloc _ _ _ (by rw[d];omega)).trans e,(Below.heap_alloc _ _ _ (by rw[d];omega)).trans f,?_,g.alloc (by rw[d];omega) _,by simp⟩;have:=zo ((w.alloc a).alloc b) c;rw[d]at this;exact this
theorem ZN(h:zj (fun k=>k=ob) W W')(c:ob<m):KX (fun k=>k=ob) n m W W':=
 ⟨h.mono (fun k _ e=> .inl e),fun k o b a _=>h.heap a b,fun k o b _ a=>h.heap a (by omega)⟩
theorem Yy.deep{α:Type}{n':Nat}{lb:Array z9}{encs:α->Array z9}{S Sp:List α->Prop}(h:Yy Fence.wide n P g lb encs Kp S Sp N m w):Yy Fence.wide n' P g lb encs Kp S Sp N m w:=
 fun l J c W f k e a i d=>callsIn_wide.2 (callsIn_wide.1 (h l J c W f k e a (fun b x V hv j=>vG rfl (i b x V hv j)) d))
theorem Xy(h:zj (fun k=>k=ob) W W')(b:ob<B):KeepsFrom B W W':=⟨h.size,fun k o c a _=>h.heap a (by omega)⟩
theorem xK.kx(h:xK W s c tv lb gb Gl L)(d:KX ex n m W W')(a:∀k,ZE s tv lb gb k->k<n/\¬ex k):xK W' s c tv lb gb Gl L:=
 h.kept d.kept (fun k b e=>by have:=a k b;exact e.elim this.2 (by omega))
theorem xK.foot_lt(h:xK W s c tv lb gb Gl L):∀k,ZE s tv lb gb k->k<W.1.size:=fun k a=>by
 rcases a with rfl|a|rfl|rfl
 ·exact h.lt
 ·exact zjb h.trow k a
 ·exact h.live.lt
 ·exact h.gone.lt
theorem ziy{c d:Nat}{V:M}(h:KX ex c d V W)(hn:n<=c)(f:V.1.size<=c)(b:∀k,ex k->k<m):KX ex n m V W:=
 ⟨h.kept.mono (fun k _ e=>e.imp id (fun e=>by omega)),h.walk,fun k o g _ a=>(h.low (by have:=zd a;omega) (fun e=>by have:=b k e;omega) (zd a)).trans a⟩
theorem zcR(h:xK w s c tv lb gb Gl L)(hc:c.ok)(hL:∀p∈L,inR c p.1)(bG:L.length<=2000):
  Calls prog 172 #[(O s)] w fun e w'=>∃ob Bl,e=.returned (.map (Q ob))/\xn jE w' ob Bl/\(∀x,x∈zx Bl↔∃k,k∈zw L/\(stL L k).st=2/\x∈kP c k)/\w.1.size<=ob/\B_ w w':=by
 have bx:=h.lt;obtain⟨y0,y1,y2,av,yz⟩:=zmI w (.cells #[(O s)] 90) (.map #[] 0) (.cells #[.map (Q (w.1.size+1))] 153);obtain⟨-,-,-,-,-,-,-,c7,-⟩:=h.cells;have aq:=fun W=>ze (JX lb W);have au:=fun gf bD W=>ze (Vp gf bD 175 #[(O s)] #[] W);obtain⟨p0,-⟩:=zc y0;have x7:=(av.cell (p:=(U s 7)) bx).trans c7;have ay:w.1.size<(((w.alloc (.cells #[(O s)] 90)).alloc (.map #[] 0)).alloc (.cells #[.map (Q (w.1.size+1))] 153)).1.size:=by rw[yz];omega
 have aA:s<(((w.alloc (.cells #[(O s)] 90)).alloc (.map #[] 0)).alloc (.cells #[.map (Q (w.1.size+1))] 153)).1.size:=by rw[yz];omega
 have H:=ze h;have Y0:=ze y0;have Y1:=ze y1;have Y2:=ze y2;have YZ:=ze yz;have b4:=ze av;have HC:=ze hc;have HL:=ze hL;clear h y0 y1 y2 yz av hc hL c7;refine(callsIn_wide (n:=7)).1 ?_;refine callsIn_of_wp_marks func172 rfl trivial ?_ rfl;simp only[ntmps172,sZz,Nat.reduceAdd,Nat.reduceSub];refine wpIn_wide.2 ?_;have bP:= @run_makeMap prog;go_wp2_with fail;generalize(((w.alloc (.cells #[(O s)] 90)).alloc (.map #[] 0)).alloc (.cells #[.map (Q (w.1.size+1))] 153))=X at*;go_region_held3 (fun w'=>w'.cell? (U w.1.size 0)=Q (O s)/\w'.cell? (U s 7)=Q (.map (Q lb))) (go_keep) (first
  |(go_at_call 173;(first|refine(aq X).mono ?_|refine(aq X.drew).mono ?_);rintro e b ⟨rfl,ah⟩;have S:B_ X b:=(by rw[ah];first|exact(G _ _).alloc (E _) _|exact(G X.1.size X).drew.alloc (E _) _);have aV:b.1.size=X.1.size+1:=(by rw[ah];exact zE _ _);have aO:b.1[X.1.size]?=Q (.cells #[.map (Q lb)] 152 (0,0)):=(by rw[ah];exact zo _ _);have p1:=(S.cell (p:=(U w.1.size 0)) ay).trans p0;have aZ:=(S.cell (p:=(U s 7)) aA).trans x7;have am:=T ay S.size;have an:=T aA S.size;have ae:=ze S;have bq:=ze aV;have be:=ze aO;clear ah S aV aO)
  |(go_at_call 124;(first|refine(au _ _ b).mono ?_|refine(au _ _ b.drew).mono ?_);rintro e a ⟨rfl,aM⟩;have ad:a.1[b.1.size]?=Q (.cells #[.func (.func 233) #[] #[(O X.1.size)]] 199 (0,0))/\a.1[b.1.size+1]?=Q (.cells #[.func (.func 175) #[(O s)] #[]] 206 (0,0))/\B_ b a/\a.1.size=b.1.size+2:=(by rw[aM];first|exact box2 b _ _|exact(by obtain⟨a1,a2,a3,a4⟩:=box2 b.drew (.cells #[.func (.func 233) #[] #[(O X.1.size)]] 199) (.cells #[.func (.func 175) #[(O s)] #[]] 206);exact⟨a1,a2,⟨a3.os,a3.tape,a3.output,a3.size,a3.block⟩,a4⟩));obtain⟨aw,aN,ai,aW⟩:=ad;have p2:=(ai.cell (p:=(U w.1.size 0)) am).trans p1;have bE:=(ai.cell (p:=(U s 7)) an).trans aZ;have bg:=ze aw;have b9:=ze aN;have af:=ze ai;have br:=ze aW;clear aM aw aN ai aW))
 all_goals
  go_wp2_with fail
  have e0:X.1.size=w.1.size+3:=ud YZ
  have e1:b.1.size=w.1.size+4:=by rw[ud bq,e0]
  have e2:a.1.size=w.1.size+6:=by rw[ud br,e1]
  have j:B_ X a:=ae.trans (af.mono ae.size)
  have ad:B_ w a:=b4.trans (j.mono (by omega))
  have f:=H.later ad
  have aj:=H.foot_lt
  have aL:=(j.block _ (by omega)).trans Y0
  have aJ:=(j.block _ (by omega)).trans Y1
  have aK:=(j.block _ (by omega)).trans Y2
  have aR:=(af.block _ (by omega)).trans be
  have a6:xn jE a (w.1.size+1) []:=⟨#[],0,aJ,⟨rfl,by simp,by simp,by simp,by simp[zx],by simp⟩⟩
  have a9:=zdk (fun x:RSg c=>x.1) (zgC c) (ex:=fun k=>k=w.1.size+1) (n:=w.1.size+6) X.1.size lb L (fun p hp=>vv (ud HL p hp)) a (by have:=aj lb (.inr (.inr (.inl rfl)));omega) (by omega) (by rw[xd aR];rfl) (qF.1 f.live)
  have aa:=ZH (fun x:RSg c=>x.1) 233 #[(O X.1.size)] zdd 175 #[(O s)] #[] Yx (fun x=>(stL L x.1).st==2) b.1.size (b.1.size+1) a (by omega) ⟨by omega,by omega⟩ ⟨by omega,by omega⟩ bg b9
   (fun x W ⟨m,Y⟩=>ZR (f.kx Y (fun k hh=>by have:=aj k hh;constructor<;>omega)) x.1 x.2.1) a9
  have bo:=ze aa
  have bJ:=ze e0
  have bK:=ze e1
  have i:=ze e2
  have aF:=ze f
  have bm:=ze aL
  have aC:=ze aK
  have bh:=ze a6
  have ag:=ze aj
  have bp:=ze ad
  have ba:=fun(x:RSg c) W=>ze (VZ s x.1 W)
  clear a9 aa e0 e1 e2 f aL aK aJ a6 aj ad j aR p2 bE p1 aZ p0 x7 ay aA am an aq au
  refine(wpIn_wide (n:=7)).1 ?_
  refine yk (F:=Fence.wide) (n:=7) rfl (by omega) (gf:=194) (lb:=#[(O b.1.size),(O (b.1.size+1))]) rfl trivial Vo (ud bo (a.1.size+2) (by omega)) (E _) (fun h k=>h.trans k) (fun W o o' h hc hw=>KX.putObj o' (by have:=ud i;omega) (by omega) h hw) (G _ _) (fun _=>rfl)
   (fun u W=>(∃Bl,xn jE W (w.1.size+1) Bl/\(∀x,x∈zx Bl↔∃k∈u,x∈kP c k.1)/\Bl.length<=4*u.length)/\KX (fun k=>k=w.1.size+1) (w.1.size+6) (a.1.size+2) a W)
   (fun _ _ _=>False)
   (fun s A B row hs hg hr=>⟨by obtain⟨Bl,P,b2⟩:=hs.1;exact⟨Bl,P.same (hg.block _ P.lt (fun e=>by have:=(hr _ e.symm).1;have:=ud i;omega)),b2⟩,KX.own (β:=Unit) (q:=a.1.size) (E _) () A B row hs.2 hg hr⟩)
   (fun _ _ _ _ _ hs _ _=>hs)
   ⟨⟨[],ud bh,fun x=>by simp[zx],by simp⟩,KX.refl _ _ _ _⟩
   (fun x a' W=>∃Bx,a.1.size<=Bx/\W.1[Bx]?=Q (.cells #[I x.1.t,I x.1.se,I x.1.we] 146 (0,0))/\a'={tmps:=#[(O s),(O w.1.size),.map none,(O (w.1.size+1+1)),(O Bx),u_,.map (Q (w.1.size+1)),(O s),(O s),.pointer (Q (U s 7)),.map (Q lb),.func (.func 233) #[] #[(O X.1.size)],(O s),.func (.func 175) #[(O s)] #[],.func (.func 194) #[] #[(O b.1.size),(O (b.1.size+1))],.agg #[I x.1.t,I x.1.se,I x.1.we],u_,u_,u_,u_,u_,u_,u_,u_],defers:=[]})
   (fun x a' s A B row hs hg hr=>by
    obtain⟨Bx,h1,h2,h3⟩:=hs;exact⟨Bx,h1,zH h2 hg (fun r e=>(hr r e).2),h3⟩) ?assign ?body ?done ?stop
  case assign=>
   rintro l u x W K ⟨⟨Bl,P,b2⟩,i2⟩ hK;have HK:=ze hK;have aX:=i2.kept.size;clear hK;gi_wp2;have d:=(G W.1.size W).alloc (E _) (.cells #[I x.1.t,I x.1.se,I x.1.we] 146);refine ud HK _ _ (zu d) (KX.of_below d) ⟨⟨Bl,P.later d,b2⟩,i2.trans (KX.of_below d)⟩ ⟨W.1.size,aX,zo _ _,rfl⟩
  case body=>
   rintro l u x a' W hl ⟨r,hr⟩ ⟨⟨Bl,P,b2,b3⟩,i2⟩ ⟨Bx,aI,hx,rfl⟩ bO;have aX:=i2.kept.size;have e2:a.1.size=w.1.size+6:=ud i;have az:=qB i2 bm (by omega) (by omega);have Z:=qB i2 aC (by omega) (by omega);have ab:=aF.kx i2 (fun k hh=>by have:=ud ag k hh;constructor<;>omega);obtain⟨sc,-⟩:=zc az;obtain⟨bA,bB,bC,-⟩:=zc hx;have bM:=zd hx;have bQ:=zd az;obtain⟨v0,v1,vb,vz⟩:=box2 W (.cells #[(O s)] 90) (.cells #[I x.1.t,I x.1.se,I x.1.we] 146);have bw:=zd hr;have aD:=ze ((vb.block l bw).trans hr);have aG:=ze v0;have aH:=ze v1;have J:=ze vb;have a5:=ze vz;have bk:=ze Z;have aE:=ze ab;have bc:=ze i2;have b6:=ze P;have b5:=ze b2;have b7:=ze b3;have bb:=ba x W;have bN:u.length<2000:=(by omega);have bF:=aI;clear v0 v1 vb vz az Z ab i2 P b2 b3 hx hr e2 aI;gi_wp2_with (first|(refine⟨trivial,?_⟩;gi_at_call 178;refine(CallsIn.inRound l (callsIn_wide.2 bb)).mono ?_;rintro e V ⟨rfl,hV⟩;rw[<-hV]at aD aG aH J a5;clear hV)|gi_in);have e2:a.1.size=w.1.size+6:=ud i;have vz:V.1.size=W.1.size+2:=ud a5;have ac:=aE.later J;have a7:=b6.later J;have aT:=(J.block _ (by omega)).trans bk;have a8:=zeB (ex:=fun k=>k=w.1.size+1) (n:=V.1.size) W.1.size (W.1.size+1) s x.1 c HC tv lb gb x.2.2.1 x.2.2.2.1 x.2.2.2.2 x.2.1.2.1 V (E _) ⟨aG,aH,ac.hd⟩ ⟨by omega,by omega⟩ ⟨by omega,by omega⟩ ⟨by have:=ud ag s (.inl rfl);omega,by have:=ud ag s (.inl rfl);omega⟩ (fun g hg=>by have:=ud ag g (.inr (.inl hg));constructor<;>omega);have bn:=ze a8;have bj:=ze a7;have bl:=ze aT;clear a8 ac a7 aT vz e2 sc bA bB bC;refine zmd (F:=Fence.wide.inRound l) (n:=5) (l₀:=l) (r₀:=r) rfl aD (by omega) (gf:=235) (lb:=#[(O W.1.size),(O (W.1.size+1))]) rfl trivial Kt (((ud bn (V.1.size+1) (by omega)).deep (n':=4)).inRound l) (E _) (fun h k=>h.trans k) (fun W o o' h hc hw=>KX.putObj o' (E _) (by omega) h hw) (G _ _) (fun _=>rfl)
    (fun v N=>(∃C,xn jE N (w.1.size+1) C/\(∀y,y∈zx C↔(∃k∈u,y∈kP c k.1)\/y∈v.map (fun z:WSg=>z.1))/\C.length<=4*u.length+v.length)/\KX (fun k=>k=w.1.size+1) V.1.size (V.1.size+1) V N)
    (fun _ _ _=>False)
    (fun s A B row hs hg hr=>⟨by obtain⟨Bl,P,b2⟩:=hs.1;exact⟨Bl,P.same (hg.block _ P.lt (fun e=>by have:=(hr _ e.symm).1;have:=ud i;have:=ud a5;omega)),b2⟩,KX.own (β:=Unit) (q:=V.1.size) (E _) () A B row hs.2 hg hr⟩)
    (fun _ _ _ _ _ hs _ _=>hs)
    ⟨⟨Bl,ud bj,fun y=>by rw[ud b5 y];simp,by simpa using ud b7⟩,KX.refl _ _ _ _⟩
    (fun y a' N=>∃By,V.1.size<=By/\N.1[By]?=Q (.cells #[I y.1.t,I y.1.se,I y.1.we] 146 (0,0))/\a'={tmps:=#[(O s),(O w.1.size),.map none,(O (w.1.size+1+1)),(O Bx),(O By),.map (Q (w.1.size+1)),(O s),(O s),.pointer (Q (U s 7)),.map (Q lb),.func (.func 233) #[] #[(O X.1.size)],(O s),.func (.func 175) #[(O s)] #[],.func (.func 194) #[] #[(O b.1.size),(O (b.1.size+1))],.agg #[I x.1.t,I x.1.se,I x.1.we],(O s),.agg #[I x.1.t,I x.1.se,I x.1.we],.func (.func 235) #[] #[(O W.1.size),(O (W.1.size+1))],.agg #[I y.1.t,I y.1.se,I y.1.we],u_,u_,u_,u_],defers:=[]})
    (fun y a' s A B row hs hg hr=>by
     obtain⟨By,h1,h2,h3⟩:=hs;exact⟨By,h1,zH h2 hg (fun r e=>(hr r e).2),h3⟩) ?assign2 ?body2 ?done2 ?stop2
   case assign2=>
    rintro l2 v y N K ⟨⟨C,d1,d2⟩,j2⟩ hK;have HK:=ze hK;have aY:=j2.kept.size;clear hK;gi_wp2;have d:=(G N.1.size N).alloc (E _) (.cells #[I y.1.t,I y.1.se,I y.1.we] 146);refine ud HK _ _ (zu d) (KX.of_below d) ⟨⟨C,d1.later d,d2⟩,j2.trans (KX.of_below d)⟩ ⟨N.1.size,aY,zo _ _,rfl⟩
   case body2=>
    rintro l2 v y a' N aw _ ⟨⟨C,d1,d2,d3⟩,j2⟩ ⟨By,bL,hy,rfl⟩ bH;have bt:=HC.n4;have e2:a.1.size=w.1.size+6:=ud i;have vz:V.1.size=W.1.size+2:=ud a5;have ax:=qB j2 bl (by omega) (by omega);obtain⟨oc,-⟩:=zc ax;obtain⟨bS,bT,bU,-⟩:=zc hy;have bR:=zd hy;have bu:=zd ax;obtain⟨o,bI,aS,aP,ho⟩:=zpA d1 (by simp only[maxLen];omega) y.2;have aU:w.1.size+1<V.1.size:=(by omega);have bi:=ze aS;have ar:=ze aP;have bd:=ze j2;have ao:=ze d2;have ap:=ze d3;clear ax aS aP j2 d1 d2 d3 hy vz e2;gi_wp2;refine⟨Xy ar aU,ZN ar (by omega),⟨_,bi,fun z=>?_,?_⟩,bd.trans (ZN ar (by omega))⟩
    ·rw[xz,ud ao z,List.map_append,List.mem_append];simp[or_assoc]
    ·rw[vN];have:=ud ap;simp only[List.length_append,List.length_cons,List.length_nil];split<;>omega
   case done2=>
    rintro xs N hS ⟨⟨C,d1,d2,d3⟩,j2⟩;subst hS;have bt:=HC.n4;have bz:=zbq c x.1;have e2:a.1.size=w.1.size+6:=ud i;have vz:V.1.size=W.1.size+2:=ud a5;have aQ:KX (fun k=>k=w.1.size+1) (w.1.size+6) (a.1.size+2) V N:=ziy j2 (by omega) (E _) (fun k e=>by omega);have ak:KX (fun k=>k=w.1.size+1) (w.1.size+6) a.1.size V N:=ziy j2 (by omega) (E _) (fun k e=>by omega);have aB:=ze aQ;have bf:=ze ((zu (B:=a.1.size) J).trans (ak.from (E _)));have b8:=ze d1;have ao:=ze d2;have ap:=ze d3;clear aQ ak d1 d2 d3 j2 vz e2;gi_wp2;refine⟨bf,(KX.of_below J).trans aB,⟨_,b8,fun z=>?_,?_⟩,bc.trans ((KX.of_below J).trans aB)⟩
    ·rw[ud ao z];have:=Zt HC x.2 z;unfold jx at this;rw[this];constructor
     ·rintro(⟨k,Y,hz⟩|hz)
      ·exact⟨k,List.mem_append_left _ Y,hz⟩
      ·exact⟨x,by simp,hz⟩
     ·rintro⟨k,Y,hz⟩;rcases List.mem_append.1 Y with Y|Y
      ·exact .inl ⟨k,Y,hz⟩
      ·simp at Y;subst Y;exact .inr hz
    ·have:=ud ap;unfold jx at bz;simp only[List.length_append,List.length_cons,List.length_nil];omega
   case stop2=>
    rintro cc v N _ hh;exact hh.elim
  case done=>
   rintro D xs W hD ⟨zs,⟨ps,hp,rfl⟩,rfl⟩ ⟨⟨Bl,P,b2,b3⟩,i2⟩ hK;have e2:a.1.size=w.1.size+6:=ud i;have Z:=qB i2 aC (by omega) (by omega);obtain⟨oc,-⟩:=zc Z;have bu:=zd Z;have bs:D≠w.1.size+1:=(by omega);have ae:=ze (xn.same P (World.putObj_heap_other (o:=.deferred none) (w:=W) (fun e=>bs e.symm)));have af:=ze b2;have b0:Hid (B_ w (W.putObj D (.deferred none))):=by
    have Y:R w.1.size a W:=⟨i2.kept.os,i2.kept.tape,i2.kept.output,i2.kept.size,fun k Y=>i2.low (by omega) (by omega) (by omega)⟩;exact xG (bp.trans Y) (E _) (by omega) hK _
   clear Z i2 P b2 b3 e2;gi_wp2;go_wp2_with fail;refine⟨by simp,.inl ⟨_,_,rfl,run_takeDeferred hK,?_⟩⟩;refine⟨_,results_tmp rfl _ _ _,w.1.size+1,Bl,rfl,ae,fun z=>?_,Nat.le_succ _,b0⟩;rw[ud af z];have al:∀k:Sg,(∃q∈(ps.map (fun p:Sg×SV=>zgC c p.1)).filter (fun q=>(stL L q.1).st==2),q.1=k)↔k∈zw L/\(stL L k).st=2:=fun k=>by
    constructor
    ·rintro⟨q,hq,rfl⟩;obtain⟨h1,h2⟩:=List.mem_filter.1 hq;obtain⟨p,bv,rfl⟩:=List.mem_map.1 h1;have a0:=hp.mem_iff.1 bv;rw[vv (ud HL p a0)]at h2 ⊢;exact⟨List.mem_map.2 ⟨p,a0,rfl⟩,by simpa using h2⟩
    ·rintro⟨h1,h2⟩;obtain⟨p,a0,rfl⟩:=List.mem_map.1 (show k∈L.map (·.1)from h1);refine⟨zgC c p.1,List.mem_filter.2 ⟨List.mem_map.2 ⟨p,hp.mem_iff.2 a0,rfl⟩,?_⟩,vv (ud HL p a0)⟩;rw[vv (ud HL p a0)];simpa using h2
   constructor
   ·rintro⟨q,hq,hz⟩;obtain⟨a1,a2⟩:=(al q.1).1 ⟨q,hq,rfl⟩;exact⟨q.1,a1,a2,hz⟩
   ·rintro⟨k,a1,a2,hz⟩;obtain⟨q,hq,rfl⟩:=(al k).2 ⟨a1,a2⟩;exact⟨q,hq,hz⟩
  case stop=>
   rintro D c u W _ _ h _;exact h.elim
theorem zgQ:∀args w,(callFunc 174 args).run prog w=.ok (.enter 174 args) w:=enters_of func174 (by kernel_rfl) rfl
theorem zgJ:∀args w,(callFunc 176 args).run prog w=.ok (.enter 176 args) w:=enters_of func176 (by kernel_rfl) rfl
theorem zch{α:Type}{F:Fence}{lb:Array z9}{encs:α->Array z9}{S S' Sp:List α->Prop}(h:Yy F n P g lb encs Kp S Sp N m w)(r:∀xs,S xs->S' xs):Yy F n P g lb encs Kp S' Sp N m w:=
 fun l J d W o q k c p f=>(h l J d W o q k c p f).mono fun e V ⟨i,j⟩=>⟨i,j.imp (fun⟨xs,a,b⟩=>⟨xs,r xs a,b⟩) id⟩
theorem vS(h:xK w s c tv lb gb Gl L)(hc:c.ok)(hL:∀p∈L,inR c p.1)(now:Int)(j:0<=now/\now<=100000):
  Calls prog 114 #[(O s),I now] w fun e w'=>∃Bl Bh,e=.returned (.func (.func 194) #[] #[(O Bl),(O Bh)])/\B_ w w'/\
   ∀ex:Nat->Prop,(∀k,ex k->k<w.1.size/\¬ZE s tv lb gb k)->Z8 ex w'.1.size prog 194 #[(O Bl),(O Bh)] (fun x:RSg c=>#[.agg #[I x.1.t,I x.1.se,I x.1.we]]) (fun ys=>∃ps:LV,ps.Perm L/\ys=(ps.map (fun p:Sg×SV=>zgC c p.1)).filter (fun x=>ja c L now x.1)) L.length w':=by
 have Z:=h.lt;obtain⟨y0,y1,o,A⟩:=box2 w (.cells #[(O s)] 90) (.cells #[I now] 3);obtain⟨-,-,-,-,-,-,-,c7,-⟩:=h.cells;have C:=ze (JX lb ((w.alloc (.cells #[(O s)] 90)).alloc (.cells #[I now] 3)));obtain⟨p0,-⟩:=zc y0;have x7:=(o.cell (p:=(U s 7)) Z).trans c7;have a0:w.1.size<((w.alloc (.cells #[(O s)] 90)).alloc (.cells #[I now] 3)).1.size:=by rw[A];omega
 have a5:s<((w.alloc (.cells #[(O s)] 90)).alloc (.cells #[I now] 3)).1.size:=by rw[A];omega
 have H:=ze h;have Y0:=ze y0;have Y1:=ze y1;have YZ:=ze A;have B:=ze o;have HC:=ze hc;have HL:=ze hL;have F:=ze j;clear h y0 y1 A o hc hL c7 j;go_in;go_wp2_with fail;generalize((w.alloc (.cells #[(O s)] 90)).alloc (.cells #[I now] 3))=X at*;refine C.mono ?_;rintro e b ⟨rfl,g⟩;have v:B_ X b:=by rw[g];exact(G _ _).alloc (E _) _
 have K:Hid (b.1.size=X.1.size+1):=by show b.1.size=_;rw[g];exact zE _ _
 have D:Hid (b.1[X.1.size]?=Q (.cells #[.map (Q lb)] 152 (0,0))):=by show b.1[X.1.size]?=_;rw[g];exact zo _ _
 have r:=ze v;have J:=ze (Vp 233 #[(O X.1.size)] 176 #[] #[(O w.1.size),(O (w.1.size+1))] b);clear g v p0 x7;go_wp2_with fail;refine J.mono ?_;rintro e i ⟨rfl,u⟩;obtain⟨a1,a2,a3,a4⟩:=box2 b (.cells #[.func (.func 233) #[] #[(O X.1.size)]] 199) (.cells #[.func (.func 176) #[] #[(O w.1.size),(O (w.1.size+1))]] 206);rw[<-u]at a1 a2 a3 a4;have A1:=ze a1;have A2:=ze a2;have A3:=ze a3;have A4:=ze a4;clear u a1 a2 a3 a4;go_wp2_with fail;go_ret;have e0:X.1.size=w.1.size+2:=ud YZ;have e1:b.1.size=X.1.size+1:=ud K;have e2:i.1.size=b.1.size+2:=ud A4;have d:B_ X i:=r.trans (A3.mono r.size);have z:B_ w i:=B.trans (d.mono (by omega));refine⟨b.1.size,b.1.size+1,rfl,z,fun ex y=>?_⟩;have l:=H.later z;have N:=H.foot_lt;have a:∀k,w.1.size<=k->¬ex k:=fun k q e=>by have:=(y k e).1;omega
 have f:∀k,ZE s tv lb gb k->k<i.1.size/\¬ex k:=fun k q=>⟨by have:=N k q;omega,fun e=>(y k e).2 q⟩;have P:=(A3.block _ (by omega)).trans D;have Y:=(d.block _ (by omega)).trans Y0;have S:=(d.block _ (by omega)).trans Y1;have hW:=ZH (fun x:RSg c=>x.1) _ _ zdd _ #[] _ zgJ (ex:=ex) (n:=i.1.size) (fun x=>ja c L now x.1) b.1.size (b.1.size+1) i (E _) ⟨by omega,a _ (by omega)⟩ ⟨by omega,a _ (by omega)⟩ A1 A2
  (fun x W ⟨m,q⟩=>by
   have q0:=qB q Y (by omega) (a _ (by omega));have q1:=qB q S (by omega) (a _ (by omega));exact YF (l.kx q f) (ud HC) x.1 x.2.1 x.2.2.1 x.2.2.2.1 x.2.2.2.2 now (ud F) w.1.size (w.1.size+1) (by rw[xd q0];rfl) (by rw[xd q1];rfl) (zd q0) (zd q1))
  (zdk (fun x:RSg c=>x.1) (zgC c) (ex:=ex) (n:=i.1.size) X.1.size lb L (fun p V=>vv (ud HL p V)) i (f lb (.inr (.inr (.inl rfl)))).2 (by omega) (by rw[xd P];rfl) (qF.1 l.live))
 exact fun m hm=>zch (hW m hm) (fun ys ⟨xs,⟨ps,V,e1⟩,e2⟩=>⟨ps,V,by rw[e2,e1]⟩)
theorem zcf(h:xK w s c tv lb gb Gl L)(hc:c.ok)(hL:∀p∈L,inR c p.1)(S:L.length<=2000)(now:Int)(v:0<=now/\now<=100000):
  Calls prog 112 #[(O s),I now] w fun e w'=>∃Bl Bh Bs,e=.returned (.func (.func 194) #[] #[(O Bl),(O Bh)])/\B_ w w'/\(∀x,x∈zx Bs↔∃k,k∈zw L/\(stL L k).st=2/\x∈kP c k)/\
   ∀ex:Nat->Prop,(∀k,ex k->k<w.1.size/\¬ZE s tv lb gb k)->Z8 ex w'.1.size prog 194 #[(O Bl),(O Bh)] (fun x:RSg c=>#[.agg #[I x.1.t,I x.1.se,I x.1.we]]) (fun ys=>∃ps:LV,ps.Perm L/\ys=(ps.map (fun p:Sg×SV=>zgC c p.1)).filter (fun x=>jd c Bs L now x.1)) L.length w':=by
 have ao:=h.lt;obtain⟨y0,y1,r,yz⟩:=box2 w (.cells #[(O s)] 90) (.cells #[I now] 3);obtain⟨-,-,-,-,-,-,-,c7,-⟩:=h.cells;have a7:=ze (zcR (h.later r) hc hL S);obtain⟨p0,-⟩:=zc y0;have x7:=(r.cell (p:=(U s 7)) ao).trans c7;have D:w.1.size<((w.alloc (.cells #[(O s)] 90)).alloc (.cells #[I now] 3)).1.size:=by rw[yz];omega
 have F:s<((w.alloc (.cells #[(O s)] 90)).alloc (.cells #[I now] 3)).1.size:=by rw[yz];omega
 have H:=ze h;have Y0:=ze y0;have Y1:=ze y1;have YZ:=ze yz;have a8:=ze r;have HC:=ze hc;have HL:=ze hL;have ab:=ze v;clear h y0 y1 yz r hc hL c7 v;go_in;go_wp2_with fail;generalize((w.alloc (.cells #[(O s)] 90)).alloc (.cells #[I now] 3))=X at*;refine a7.mono ?_;rintro e f ⟨ob,Bs,rfl,V,A,B,q⟩;have bb:=zo f (.cells #[.map (Q ob)] 153);have hbb:B_ f (f.alloc (.cells #[.map (Q ob)] 153)):=(G _ _).alloc (E _) _;have a0:=zE f (.cells #[.map (Q ob)] 153);have a:=q.trans (hbb.mono q.size);have p1:=(a.cell (p:=(U w.1.size 0)) D).trans p0;have ap:=(a.cell (p:=(U s 7)) F).trans x7;have y:=V.later hbb;have ar:=T D a.size;have au:=T F a.size;have a6:=ze bb;have ai:=ze a0;have a5:=ze a;have ac:=ze y;have ad:=ze A;have ae:=ze B;have ag:=ze q.size;have a9:=ze (JX lb (f.alloc (.cells #[.map (Q ob)] 153)));clear bb hbb a0 a V y A B q p0 x7 D F;go_wp2_with fail;generalize(f.alloc (.cells #[.map (Q ob)] 153))=Z at*;refine a9.mono ?_;rintro e d ⟨rfl,o⟩;have N:B_ Z d:=by rw[o];exact(G _ _).alloc (E _) _
 have ah:Hid (d.1.size=Z.1.size+1):=by show d.1.size=_;rw[o];exact zE _ _
 have aa:Hid (d.1[Z.1.size]?=Q (.cells #[.map (Q lb)] 152 (0,0))):=by show d.1[Z.1.size]?=_;rw[o];exact zo _ _
 have J:=ze N;have af:=ze (Vp 233 #[(O Z.1.size)] 174 #[] #[(O f.1.size),(O w.1.size),(O (w.1.size+1))] d);clear o N p1 ap;go_wp2_with fail;refine af.mono ?_;rintro e l ⟨rfl,K⟩;obtain⟨a1,a2,a3,a4⟩:=box2 d (.cells #[.func (.func 233) #[] #[(O Z.1.size)]] 199) (.cells #[.func (.func 174) #[] #[(O f.1.size),(O w.1.size),(O (w.1.size+1))]] 206);rw[<-K]at a1 a2 a3 a4;have A1:=ze a1;have A2:=ze a2;have A3:=ze a3;have A4:=ze a4;clear K a1 a2 a3 a4;go_wp2_with fail;go_ret;have e0:X.1.size=w.1.size+2:=ud YZ;have ez:Z.1.size=f.1.size+1:=ud ai;have e1:d.1.size=Z.1.size+1:=ud ah;have eX:X.1.size<=f.1.size:=ud ag;have eo:=ud ae;have e2:l.1.size=d.1.size+2:=ud A4;have i:B_ Z l:=J.trans (A3.mono J.size);have g:B_ X l:=a5.trans (i.mono (by omega));have Y:B_ w l:=a8.trans (g.mono (by omega));refine⟨d.1.size,d.1.size+1,Bs,rfl,Y,ad,fun ex P=>?_⟩;have C:=H.later Y;have ak:=H.foot_lt;have b:∀k,w.1.size<=k->¬ex k:=fun k u e=>by have:=(P k e).1;omega
 have j:∀k,ZE s tv lb gb k->k<l.1.size/\¬ex k:=fun k u=>⟨by have:=ak k u;omega,fun e=>(P k e).2 u⟩;have al:=(A3.block _ (by omega)).trans aa;have z:=ac.later i;have aj:=(i.block _ (by omega)).trans a6;have aq:=z.lt;have an:=(g.block _ (by omega)).trans Y0;have am:=(g.block _ (by omega)).trans Y1;have hW:=ZH (fun x:RSg c=>x.1) _ _ zdd _ #[] _ zgQ (ex:=ex) (n:=l.1.size) (fun x=>jd c Bs L now x.1) d.1.size (d.1.size+1) l (E _) ⟨by omega,b _ (by omega)⟩ ⟨by omega,b _ (by omega)⟩ A1 A2
  (fun x W ⟨m,u⟩=>by
   have q0:=qB u an (by omega) (b _ (by omega));have q1:=qB u am (by omega) (b _ (by omega));have q2:=qB u aj (by omega) (b _ (by omega));exact zaB (C.kx u j) (ud HC) (xn.kept z u.kept (fun e=>e.elim (b _ (by omega)) (by omega))) x.1 x.2.1 x.2.2.1 x.2.2.2.1 x.2.2.2.2 now (ud ab) f.1.size w.1.size (w.1.size+1) (by rw[xd q2];rfl) (by rw[xd q0];rfl) (by rw[xd q1];rfl) (zd q2) (zd q0) (zd q1))
  (zdk (fun x:RSg c=>x.1) (zgC c) (ex:=ex) (n:=l.1.size) Z.1.size lb L (fun p hp=>vv (ud HL p hp)) l (j lb (.inr (.inr (.inl rfl)))).2 (by omega) (by rw[xd al];rfl) (qF.1 C.live))
 exact fun m hm=>zch (hW m hm) (fun ys ⟨xs,⟨ps,hp,e1⟩,e2⟩=>⟨ps,hp,by rw[e2,e1]⟩)
def jh(a b:Int):Int:=if a<b then-1 else if b<a then 1 else 0
theorem Xx(a:Int)(w:M):Calls prog 227 #[I a] w fun e w'=>e=.returned (.bool false)/\w'=w:=by
 have h:(a==a)=true:=by simp
 go_in;go_wp2_with fail;go_ret;exact⟨by simp,rfl⟩
theorem vr(a b:Int)(w:M):Calls prog 162 #[I a,I b] w fun e w'=>e=.returned (I (jh a b))/\w'=w:=by
 rcases Int.lt_trichotomy a b with h|h|h
 ·rw[show jh a b= -1 from by simp[jh,h]]
  go_in;go_wp2_with(go_at_call 227;refine(Xx _ _).mono ?_;rintro e w1 ⟨rfl,rfl⟩);go_ret;exact⟨rfl,rfl⟩
 ·rw[show jh a b=0 from by simp[jh,h]]
  have c:¬a<b:=by omega
  have d:¬b<a:=by omega
  have f:decide (a<b)=false:=by simpa using c
  have g:decide (b<a)=false:=by simpa using d
  go_in;go_wp2_with(go_at_call 227;refine(Xx _ _).mono ?_;rintro e w1 ⟨rfl,rfl⟩);go_ret;exact⟨rfl,rfl⟩
 ·have c:¬a<b:=by omega
  rw[show jh a b=1 from by simp[jh,h,c]]
  have f:decide (a<b)=false:=by simpa using c
  go_in;go_wp2_with(go_at_call 227;refine(Xx _ _).mono ?_;rintro e w1 ⟨rfl,rfl⟩);go_ret;exact⟨rfl,rfl⟩
def orL:List Int->Int
 |[]=>0
 |a::r=>if a=0 then orL r else a
theorem ziV{xs:List Int}{k:Nat}(h:∀j,j<k->xs[j]?=Q 0)(c:k<=xs.length):orL xs=orL (xs.drop k):=by
 induction k generalizing xs with
 |zero=>rfl
 |succ k d=>
  cases xs with
  |nil=>simp at c
  |cons a r=>
   have b:=h 0 (by omega);simp at b;subst b;show(if(0:Int)=0 then orL r else 0)=orL (r.drop k)
   rw[if_pos rfl];exact d (fun j e=>by have:=h (j+1) (by omega);simpa using this) (by simpa using c)
theorem ziU(xs:List Int)(n:xs.length<=1000)(w:M)(g:Nat)(c:∀(k:Nat) (x:Int),xs[k]?=Q x->w.cell? (U g k)=Q (I x)):
  Calls prog 163 #[.slice (Q (U g 0)) xs.length xs.length] w fun e w'=>e=.returned (I (orL xs))/\w'=w:=by
 go_in;go_wp2_with fail;go_loopw [5,8] (fun _ i wr=>∃k:Nat,k<=xs.length/\i=I k/\wr=w/\∀j,j<k->xs[j]?=Q 0) (fun _ i _=>xs.length-(intOf i).toNat);case atStart=>exact⟨0,Nat.zero_le _,rfl,rfl,fun j h=>absurd h (Nat.not_lt_zero _)⟩
 case round=>
  obtain⟨k,t,rfl,rfl,d⟩:=hrel;by_cases a:k<xs.length
  ·obtain⟨x,l⟩:=xC a;have r:=c k x l;have o:(k:Int)<xs.length:=(by omega);have m:=ze l;have b:=ze d;have p:=ze c;clear l d c;by_cases f:x=0
   ·subst f;go_wp2_with fail;go_roundw;case rel=>
     refine⟨k+1,by omega,by simp,trivial,fun j s=>?_⟩;by_cases e:j=k
     ·rw[e];exact m
     ·exact ud b j (by omega)
    case measure=>simp[intOf];omega
   ·have q:(x==0)=false:=(by simpa using f);go_wp2_with fail;go_ret;refine⟨?_,rfl⟩;rw[ziV (ud b) (Nat.le_of_lt a)];obtain⟨n,ex⟩:=List.getElem?_eq_some_iff.1 m;rw[List.drop_eq_getElem_cons n,ex];show _=Ending.returned (I (if x=0 then _ else x))
    rw[if_neg f];rfl
  ·obtain rfl:k=xs.length:=(by omega);have b:=ze d;clear c d;go_wp2_with fail;go_ret;refine⟨?_,rfl⟩;rw[ziV (ud b) (E _),List.drop_length];rfl
