import Derived.Test.YtndhpgciopcncaaGreatDoorPDisk4
import Derived.Deep.RegionLaw
open Option renaming some → J
set_option linter.unusedVariables false
set_option maxHeartbeats 2000000
open Go.Proofs.Tryz
namespace Go.Proofs.YtndhpgciopcncaaGreatDoor
open Go.RowKit
theorem vU{w:World}{ops:Array Oper}{o:Oper}{a:Act}{K:Act->World->Prop}{Q:Exit->Act->World->Prop}{E:Prop}(k:o.guard=none)(s x:Operand)
  (y:o.op=.call {callee:=.builtin .append,args:=#[s,x],argTypes:=#[109,109]}) (base:Nat) (v:Value) (l:List FS) (f:FS) (A:a.eval s=v) (d:w.ownsRow base 113 3 v l.length (zL l))
  (e:Nat) (C:a.eval x=.slice (J (U e 0)) 1 1) (j:w.1[e]?=J (.cells #[.string f.name,.string f.data,I f.safe] 113 (0,0))) (F:l.length<=1099511627776) (hbase:base<=w.1.size)
  (h:∀g cap w',w'.ownsRow base 113 3 (.slice (J (U g 0)) (l.length+1) cap) (l++[f]).length (zL (l++[f]))->w.grownBy w' v.ownBlock->(v.ownBlock=J g\/g=w.1.size)->g<w'.1.size->K (a.put o.dst (.slice (J (U g 0)) (l.length+1) cap)) w'):
  if Region.wanted o (yielded ops a.tmps)=true then Oper.wp prog o a w K Q else E:=by
 have B:Region.wanted o (yielded ops a.tmps)=true:=by simp[Region.wanted,k]
 rw[if_pos B]
 have b:=Tryz.infoFile
 cases m:prog.info? 113 with
 |none=>simp[m]at b
 |some i=>
  simp only[m,Option.map_some,Option.some.injEq,Prod.mk.injEq]at b
  obtain⟨D,c,hby⟩:=b
  obtain⟨g,cap,w',z,p,_,q,r,t⟩:=vp (P:=prog) w 109 o.type base 113 i _ 3 40 underlying109 m D c hby rfl (by decide) v l.length (zL l) d (U e 0) 1 1 [.string f.name,.string f.data,I f.safe] rfl
   (World.news_of_block (cs:=#[.string f.name,.string f.data,I f.safe]) j) (by intro u n;simp at n;rcases n with rfl|rfl|rfl<;>rfl) (by decide) (by simp only[maxLen];omega) (by omega) hbase
  unfold Oper.wp
  simp[execOp,y,resolve,invoke,builtin,A,C,z,Result.andThen]
  exact h g cap w' (QA rfl p) q r t
theorem Kj{w:World}{base size n:Nat}{e:TypeId}{v:Value}{xs:List Value}(h:w.ownsRow base e size v n xs):w.drew.ownsRow base e size v n xs:=h
theorem Qm{w w':World}{a:Option Nat}(h:w.drew.grownBy w' a):w.grownBy w' a:=⟨h.os,h.tape,h.output,h.size,h.block⟩
theorem vP(w:World)(o:Obj):(w.alloc o).drew.1[w.1.size]?=J o:=heap_alloc_last w o
theorem KB(w:World)(o:Obj):(w.alloc o).drew.1.size=w.1.size+1:=xP w o
def yW(b a:ByteArray)(f:FS):Bool:=!eqS f.name a&&!eqS f.name b
theorem zdr(l:List FS)(b a:ByteArray):Xw (Xw l b) a=l.filter (yW b a):=by
 unfold Xw;rw[List.filter_filter];rfl
def qe(S:DS)(b a:ByteArray):DS:=if zo S then zm S else JL (zm S) b a
theorem Xb{S:DS}{b a:ByteArray}(c:zo S=true):qe S b a=zm S:=by simp[qe,c]
theorem Yd{S:DS}{a c:ByteArray}(d:zo S=false)(b:xN S.files a=none):qe S a c=zm S:=by simp[qe,d,JL,zq,b]
theorem Ye{S:DS}{a b:ByteArray}{i:Nat}(e:zo S=false)(c:xN S.files a=J i)(d:eqS a b=true):qe S a b=zm S:=by simp[qe,e,JL,zq,c,d]
theorem vM{S:DS}{b a:ByteArray}{i:Nat}{f:FS}(g:zo S=false)(c:xN S.files b=J i)(e:S.files[i]?=J f)(d:eqS b a=false):qe S b a={zm S with files:=(zm S).files.filter (yW b a)++[{f with name:=a}]}:=by
 simp[qe,g,JL,zq,c,e,d,zdr]
theorem KU(B:Nat)(p:Nat)(S:DS)(fs:Value)(d k:ByteArray)(w:World)(N:Nat)(n:N<=1099511627776)(j:DOk S N)(m:zo S=true)(h:zw 111 113 B w p S fs):
  Calls prog 207 #[(O p),.string d,.string k] w fun e w'=>e=.returned (.bool false)/\zw 111 113 B w' p (zm S) fs/\zh (foot p fs) w w':=by
 obtain⟨g,i,hn,b⟩:=j
 have a:=ze (yr B p S fs w ⟨g,i⟩ h)
 rw[m]at a
 have c:(zm S).files.length<=N:=by rw[zq];exact hn
 clear m b
 go_enter func207,ntmps207
 go_wp2_with(first
  |(go_at_call 197;refine(ud a).mono ?_;rintro e o ⟨rfl,l,f⟩)
  |(go_at_call 198;refine(yN B p (zm S) _ d _ N n c l).mono ?_;rintro e q ⟨rfl,rfl⟩))
 go_ret
 exact⟨rfl,l,f⟩
theorem zcX(B:Nat)(p:Nat)(S:DS)(fs:Value)(a m:ByteArray)(w:World)(N:Nat)(q:N<=1099511627776)(l:DOk S N)(o:zo S=false)(f:xN S.files a=none)(h:zw 111 113 B w p S fs):
  Calls prog 207 #[(O p),.string a,.string m] w fun e w'=>e=.returned (.bool true)/\zw 111 113 B w' p (zm S) fs/\zh (foot p fs) w w':=by
 obtain⟨j,k,hn,c⟩:=l
 have b:=ze (yr B p S fs w ⟨j,k⟩ h)
 rw[o]at b
 have d:(zm S).files.length<=N:=by rw[zq];exact hn
 have g:Hid (qC (zm S).files a= -1):=by show _=_;simp[qC,zq,f]
 clear f
 clear o c
 go_enter func207,ntmps207
 go_wp2_with(first
  |(go_at_call 197;refine(ud b).mono ?_;rintro e r ⟨rfl,n,i⟩)
  |(go_at_call 198;refine(yN B p (zm S) _ a _ N q d n).mono ?_;rintro e s ⟨rfl,rfl⟩;rw[ud g]))
 go_ret
 exact⟨rfl,n,i⟩
theorem zcY(B:Nat)(p:Nat)(S:DS)(fs:Value)(a b:ByteArray)(w:World)(N:Nat)(s:N<=1099511627776)(n:DOk S N)(r:zo S=false)(i:Nat)(g:xN S.files a=J i)(q:eqS a b=true)(h:zw 111 113 B w p S fs):
  Calls prog 207 #[(O p),.string a,.string b] w fun e w'=>e=.returned (.bool true)/\zw 111 113 B w' p (zm S) fs/\zh (foot p fs) w w':=by
 obtain⟨l,m,hn,d⟩:=n
 have c:=ze (yr B p S fs w ⟨l,m⟩ h)
 rw[r]at c
 have f:(zm S).files.length<=N:=by rw[zq];exact hn
 have j:Hid (qC (zm S).files a=i):=by show _=_;simp[qC,zq,g]
 have t:(a.toList==b.toList)=true:=q
 have u:¬(i:Int)<0:=by omega
 clear g q
 clear r d
 go_enter func207,ntmps207
 go_wp2_with(first
  |(go_at_call 197;refine(ud c).mono ?_;rintro e v ⟨rfl,o,k⟩)
  |(go_at_call 198;refine(yN B p (zm S) _ a _ N s f o).mono ?_;rintro e x ⟨rfl,rfl⟩;rw[ud j]))
 go_ret
 exact⟨rfl,o,k⟩
theorem zje(B:Nat)(p:Nat)(S:DS)(fs:Value)(b a:ByteArray)(w:World)(N:Nat)(hN:N<=1099511627776)(a5:DOk S N)(hB:B<=w.1.size)(hs:zo S=false)(i:Nat)(f:FS)(R:xN S.files b=J i)(hf:S.files[i]?=J f)(he:eqS b a=false)(h:zw 111 113 B w p S fs):
  Calls prog 207 #[(O p),.string b,.string a] w fun e w'=>e=.returned (.bool true)/\∃F,zw 111 113 B w' p {zm S with files:=(zm S).files.filter (yW b a)++[{f with name:=a}]} F/\zh (foot p fs) w w'/\∀k,F.ownBlock=J k->fs.ownBlock=J k\/w.1.size<=k:=by
 obtain⟨a2,a3,hn,G⟩:=a5
 have E:=ze (yr B p S fs w ⟨a2,a3⟩ h)
 rw[hs]at E
 have ab:i<S.files.length:=(List.getElem?_eq_some_iff.1 hf).1
 have ac:(i:Int)<S.files.length:=by omega
 have a9:¬(i:Int)<0:=by omega
 have aa:decide ((i:Int)<0)=false:=by simp
 have a8:(b.toList==a.toList)=false:=he
 have W:Hid (qC (zm S).files b=i):=by show _=_;simp[qC,zq,R]
 have L:(zm S).files[i]?=J f:=by rw[zq];exact hf
 have HF:=ze L
 have M:(zm S).files.length<=N:=by rw[zq];exact hn
 have HL:Hid ((zm S).files.length=S.files.length):=by show _=_;rw[zq]
 obtain⟨g,cap,rfl,-⟩:=h.files (by omega)
 clear hs R L G he h hf
 go_enter func207,ntmps207
 go_wp2_with(first
  |(go_at_call 197;refine(ud E).mono ?_;rintro e w0 ⟨rfl,x,o⟩)
  |(go_at_call 198;refine(yN B p (zm S) _ b _ N hN M x).mono ?_;rintro e c ⟨rfl,rfl⟩;rw[ud W];have X:=x.c0;obtain⟨x0,x1,x2,xf⟩:=x.at (ud HF);clear xf;have af:=x.lt))
 have Y:Below c.1.size c (c.alloc (.cells #[.string a,.string f.data,I f.safe] 113)):=(Below.refl _ _).alloc (Nat.le_refl _) _
 go_loopw [9,11,39] (fun v _ y wr=>∃(k:Nat),k<=S.files.length/\y=I k/\wr.ownsRow (c.1.size+1) 113 3 v (yX (yW b a) (zm S).files k).length (zL (yX (yW b a) (zm S).files k))/\Below (c.1.size+1) (c.alloc (.cells #[.string a,.string f.data,I f.safe] 113)) wr) (fun _ _ y _=>S.files.length-(intOf y).toNat)
 case atStart=>exact⟨0,Nat.zero_le _,rfl,by rw[K5];exact JE _ _ _ _,Below.refl _ _⟩
 case round=>
  clear X x0 x1 x2
  obtain⟨k,C,rfl,hv,r⟩:=hrel
  have ad:=XT (yW b a) (zm S).files k
  have H:Below c.1.size c wr:=Y.trans (r.mono (by omega))
  have V:=x.later H
  have hbs:c.1.size+1<=wr.1.size:=by have:=r.size;rw[xP]at this;exact this
  by_cases a4:k<S.files.length
  ·obtain⟨q,A⟩:=XO (l:=(zm S).files) (k:=k) (by rw[ud HL];exact a4)
   obtain⟨x0,x1,x2,xf⟩:=V.at A
   have u:=ze A
   have ae:(k:Int)<S.files.length:=by omega
   clear A xf
   cases d:eqS q.name b
   ·cases n:eqS q.name a
    ·have t:(q.name.toList==b.toList)=false:=d
     have K:(q.name.toList==a.toList)=false:=n
     have D:=ze (Vy (p:=yW b a) (ud u) (by simp[yW,d,n]))
     clear d n
     go_wp2_with(first
      |(at_builtin;refine Kn rfl _ _ rfl (c.1.size+1) _ (yX (yW b a) (zm S).files k) q rfl ((hv.alloc _).alloc _) (wr.1.size+1) rfl (YV _ _ _) ?hll ?hbb ?_;(case hll=>omega);(case hbb=>(rw[Xr];omega));intro g2 a6 w3 m Q j Z P)
      |fail)
     have a0:Below (c.1.size+1) (c.alloc (.cells #[.string a,.string f.data,I f.safe] 113)) w3:=((r.alloc (by omega) _).alloc (by rw[xP];omega) _).grown j (by rw[Xr];omega) (fun k C=>(hv.lt k C).1)
     exact⟨⟨k+1,by omega,by go_num,by rw[ud D];exact m,a0⟩,by simp[intOf];omega⟩
    ·have t:(q.name.toList==b.toList)=false:=d
     have K:(q.name.toList==a.toList)=true:=n
     have D:=ze (YY (p:=yW b a) (ud u) (by simp[yW,d,n]))
     clear d n
     go_wp2
     go_roundw
     case rel=>exact⟨k+1,by omega,by go_num,by rw[ud D];exact hv.alloc _,r.alloc (by omega) _⟩
     case measure=>simp[intOf];omega
   ·have t:(q.name.toList==b.toList)=true:=d
    have D:=ze (YY (p:=yW b a) (ud u) (by simp[yW,d]))
    clear d
    go_wp2
    go_roundw
    case rel=>exact⟨k+1,by omega,by go_num,by rw[ud D];exact hv.alloc _,r.alloc (by omega) _⟩
    case measure=>simp[intOf];omega
  ·have e:k=(zm S).files.length:=by rw[ud HL];omega
   have T:=Zs hv (show B<=c.1.size+1 by have:=o.size;omega)
   have ah:=hv.lt
   have hll:((zm S).files.filter (yW b a)).length<=N:=by have:=List.length_filter_le (yW b a) (zm S).files;omega
   rw[e,Vx]at hv
   have X:=V.c0
   have ag:=V.lt
   have a1:=V.free 0
   have y0:Cz wr c.1.size 0 (.string a):=(r.cell (p:=(U c.1.size 0)) (show c.1.size<_ by omega)).trans (by rw[World.cell?_alloc_mark];rfl)
   have y1:Cz wr c.1.size 1 (.string f.data):=(r.cell (p:=(U c.1.size 1)) (show c.1.size<_ by omega)).trans (by rw[World.cell?_alloc_mark];rfl)
   have y2:Cz wr c.1.size 2 (I f.safe):=(r.cell (p:=(U c.1.size 2)) (show c.1.size<_ by omega)).trans (by rw[World.cell?_alloc_mark];rfl)
   clear e T
   go_wp2_with(first
    |(at_builtin;refine Kn rfl _ _ rfl (c.1.size+1) _ ((zm S).files.filter (yW b a)) {f with name:=a} rfl (hv.alloc _) wr.1.size rfl (heap_alloc_last _ _) ?hll ?hbb ?_;(case hll=>omega);(case hbb=>(rw[xP];omega));intro g3 a7 w4 m Q j Z P;have z:Below (c.1.size+1) wr w4:=((Below.refl _ _).alloc (by omega) _).grown j (by rw[xP];omega) (fun k C=>(hv.lt k C).1);have d0:=(z.cell (p:=(U p 0)) (show p<_ by omega)).trans X;have d1:=(z.frozen (p:=(U p 0)) (show p<_ by omega)).trans a1)
    |fail)
   go_ret
   have s:Below c.1.size c w4:=H.trans (z.mono (by omega))
   obtain⟨hD,hK⟩:=x.setFiles (by decide) (zh.of_below s) (s.block p x.lt) (Zs m (show B<=c.1.size+1 by have:=o.size;omega))
   exact⟨rfl,_,hD,o.trans hK (fun _ _ hh=>hh),fun k C=> .inr (by have:=(m.lt k C).1;have:=o.size;omega)⟩
theorem zfU(B:Nat)(p:Nat)(S:DS)(fs:Value)(a c:ByteArray)(w:World)(N:Nat)(q:N<=1099511627776)(d:DOk S N)(t:B<=w.1.size)(h:zw 111 113 B w p S fs):
  Calls prog 207 #[(O p),.string a,.string c] w fun e w'=>e=.returned (.bool (!zo S))/\∃j,zw 111 113 B w' p (qe S a c) j/\zh (foot p fs) w w'/\∀k,j.ownBlock=J k->fs.ownBlock=J k\/w.1.size<=k:=by
 cases g:zo S
 ·cases b:xN S.files a with
  |none=>
   rw[Yd g b]
   exact(zcX B p S fs a c w N q d g b h).mono fun e w' ⟨l,m,n⟩=>⟨l,fs,m,n,fun k o=> .inl o⟩
  |some i=>
   obtain⟨f,s,_,_⟩:=kh b
   cases r:eqS a c
   ·rw[vM g b s r]
    exact zje B p S fs a c w N q d t g i f b s r h
   ·rw[Ye g b r]
    exact(zcY B p S fs a c w N q d g i b r h).mono fun e w' ⟨l,m,n⟩=>⟨l,fs,m,n,fun k o=> .inl o⟩
 ·rw[Xb g]
  exact(KU B p S fs a c w N q d g h).mono fun e w' ⟨l,m,n⟩=>⟨l,fs,m,n,fun k o=> .inl o⟩
end Go.Proofs.YtndhpgciopcncaaGreatDoor
