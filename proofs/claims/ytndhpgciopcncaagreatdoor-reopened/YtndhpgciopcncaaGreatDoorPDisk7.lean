import Derived.Test.YtndhpgciopcncaaGreatDoorPDisk5
open Nat renaming le_refl → J
open Go.RowKit.Below renaming refl → K
open Option renaming some → E
set_option linter.unusedVariables false
set_option maxHeartbeats 4000000
open Go.Proofs.Tryz
namespace Go.Proofs.YtndhpgciopcncaaGreatDoor
open Go.RowKit
def Yi:DS:=⟨[],-1,false⟩
theorem zcG(B:Nat)(w:World)(a:B<=w.1.size):
  Calls prog 38 #[] w fun e w'=>e=.returned (O w.1.size)/\zw 111 113 B w' w.1.size Yi (.slice none 0 0)/\Below w.1.size w w'/\w'.1.size=w.1.size+1:=by
 go_enter func38,ntmps38
 go_wp2
 go_ret
 exact⟨rfl,⟨heap_alloc_last _ _,a,JE _ _ _ _⟩,(K _ _).alloc (J _) _,xP _ _⟩
theorem Ve{S:DS}{n:Int}(h:zo S=true):Q7 S n=S:=by simp[Q7,h]
theorem zgq{S:DS}{n:Int}(h:zo S=false)(hn:n<0):Q7 S n={S with left:= -1}:=by simp[Q7,h,hn]
theorem zgr{S:DS}{n:Int}(h:zo S=false)(hn:¬n<0):Q7 S n={S with left:=n}:=by simp[Q7,h,hn]
theorem zmd(B:Nat)(p:Nat)(S:DS)(fs:Value)(n:Int)(w:World)(b:zw 111 113 B w p S fs):
  Calls prog 28 #[(O p),I n] w fun e w'=>e=.returned (.tuple #[])/\zw 111 113 B w' p (Q7 S n) fs/\zh (foot p fs) w w':=by
 cases c:zo S
 ·by_cases hn:n<0
  ·rw[zgq c hn]
   by_cases i:n= -1
   ·subst i
    have a:=ze (jK B p S fs w b)
    rw[c]at a
    clear c
    go_enter func28,ntmps28
    go_wp2_with(go_at_call 32;refine(ud a).mono ?_;rintro e h ⟨rfl,rfl⟩;have d:=b.c1;have f:=b.free 1)
    go_end0
    exact⟨rfl,b.setLeft (by decide) (-1)⟩
   ·have g:¬ -1<=n:=by omega
    have a:=ze (jK B p S fs w b)
    rw[c]at a
    clear c
    go_enter func28,ntmps28
    go_wp2_with(go_at_call 32;refine(ud a).mono ?_;rintro e h ⟨rfl,rfl⟩;have d:=b.c1;have f:=b.free 1)
    go_end0
    try rw[show(max n (-1):Int)= -1 from by omega]
    exact⟨rfl,b.setLeft (by decide) (-1)⟩
  ·rw[zgr c hn]
   have g: -1<=n:=by omega
   have a:=ze (jK B p S fs w b)
   rw[c]at a
   clear c
   go_enter func28,ntmps28
   go_wp2_with(go_at_call 32;refine(ud a).mono ?_;rintro e h ⟨rfl,rfl⟩;have d:=b.c1;have f:=b.free 1)
   go_end0
   try rw[show(max n (-1):Int)=n from by omega]
   exact⟨rfl,b.setLeft (by decide) n⟩
 ·rw[Ve c]
  have a:=ze (jK B p S fs w b)
  rw[c]at a
  clear c
  go_enter func28,ntmps28
  go_wp2_with(go_at_call 32;refine(ud a).mono ?_;rintro e h ⟨rfl,rfl⟩;have d:=b.c1;have f:=b.free 1)
  go_end0
  exact⟨rfl,b,zh.refl _ _⟩
theorem zdF{a b:ByteArray}(h:a=b):Ending.returned (.string a)=.returned (.string b):=by rw[h]
def yJ(S:DS)(a:ByteArray):ByteArray:=match xN S.files a with|some i=>(match S.files[i]? with|some f=>f.data|none=>⟨#[]⟩)|none=>⟨#[]⟩
theorem JK(B:Nat)(p:Nat)(S:DS)(fs:Value)(c:ByteArray)(w:World)(N:Nat)(k:N<=1099511627776)(hn:S.files.length<=N)(h:zw 111 113 B w p S fs):
  Calls prog 128 #[(O p),.string c] w fun e w'=>e=.returned (.string (yJ S c))/\w'=w:=by
 have b:=ze (yN B p S fs c w N k hn h)
 cases a:xN S.files c with
 |none=>
  have d:qC S.files c= -1:=by simp[qC,a]
  have HR:Hid (yJ S c=⟨#[]⟩):=by show _=_;simp[yJ,a]
  rw[d]at b
  clear a d
  go_enter func128,ntmps128
  go_wp2_with(go_at_call 198;refine(ud b).mono ?_;rintro e o ⟨rfl,rfl⟩)
  go_ret
  exact⟨zdF (ud HR).symm,rfl⟩
 |some i=>
  obtain⟨f,j,m,_⟩:=kh a
  have d:qC S.files c=i:=by simp[qC,a]
  have HR:Hid (yJ S c=f.data):=by show _=_;simp[yJ,a,j]
  rw[d]at b
  have n:(i:Int)<S.files.length:=by omega
  have l:¬(i:Int)<0:=by omega
  obtain⟨g,cap,rfl,-⟩:=h.files (by omega)
  have r:=h.c0
  obtain⟨s,t,u,q⟩:=h.at j
  clear a d j q
  go_enter func128,ntmps128
  go_wp2_with(go_at_call 198;refine(ud b).mono ?_;rintro e o ⟨rfl,rfl⟩)
  go_ret
  exact⟨zdF (ud HR).symm,rfl⟩
theorem znC(B:Nat)(p:Nat)(S:DS)(fs:Value)(c:ByteArray)(w:World)(N:Nat)(f:N<=1099511627776)(hn:S.files.length<=N)(h:zw 111 113 B w p S fs):
  Calls prog 205 #[(O p),.string c] w fun e w'=>e=.returned (.bool (xN S.files c).isSome)/\w'=w:=by
 have a:=ze (yN B p S fs c w N f hn h)
 cases b:xN S.files c with
 |none=>
  have d:qC S.files c= -1:=by simp[qC,b]
  rw[d]at a
  clear b d
  go_enter func205,ntmps205
  go_wp2_with(go_at_call 198;refine(ud a).mono ?_;rintro e j ⟨rfl,rfl⟩)
  go_ret
  exact⟨rfl,rfl⟩
 |some i=>
  have d:qC S.files c=i:=by simp[qC,b]
  have g:(0:Int)<=(i:Int):=by omega
  rw[d]at a
  clear b d
  go_enter func205,ntmps205
  go_wp2_with(go_at_call 198;refine(ud a).mono ?_;rintro e j ⟨rfl,rfl⟩)
  go_ret
  exact⟨vg (by simp),rfl⟩
def yc(keep:Int)(l:List FS)(k:Nat):List FS:=(l.take k).map (leftOf keep)
theorem zcC(keep:Int)(l:List FS):yc keep l 0=[]:=by simp[yc]
theorem zcB{keep:Int}{l:List FS}{k:Nat}{f:FS}(h:l[k]?=E f):yc keep l (k+1)=yc keep l k++[leftOf keep f]:=by
 simp[yc,Zl h]
theorem Jq(keep:Int)(l:List FS)(k:Nat):(yc keep l k).length<=k:=by
 have:=List.length_take_le k l;simp[yc];omega
theorem zfp(keep:Int)(l:List FS):yc keep l l.length=l.map (leftOf keep):=by simp[yc]
theorem zet(d:ByteArray)(n:Nat):(d.extract 0 n).size=min n d.size:=by simp
theorem zhD(d:ByteArray):d.extract 0 d.size=d:=by
 apply ByteArray.ext;simp
theorem VD{keep:Int}{f:FS}(a:f.safe<=f.data.size)(b:keep<0)(c:keep<(f.data.size:Int)-f.safe):leftOf keep f=⟨f.name,f.data.extract 0 f.safe,f.safe⟩:=by
 simp only[leftOf,if_pos b,if_pos c,Nat.add_zero,zet]
 rw[Nat.min_eq_left a]
theorem zfo{k:Nat}{f:FS}(a:(k:Int)<(f.data.size:Int)-f.safe):leftOf k f=⟨f.name,f.data.extract 0 (f.safe+k),min (f.safe+k) f.data.size⟩:=by
 have:¬(k:Int)<0:=by omega
 simp only[leftOf,if_neg this,if_pos a,Int.toNat_natCast,zet]
theorem VC{keep:Int}{f:FS}(b:f.safe<=f.data.size)(a:¬keep<(f.data.size:Int)-f.safe):leftOf keep f=⟨f.name,f.data,f.data.size⟩:=by
 have e:f.safe+(f.data.size-f.safe)=f.data.size:=by omega
 simp only[leftOf,if_neg a,e,zhD]
theorem zhy(B:Nat)(p:Nat)(S:DS)(fs:Value)(keep:Int)(w:World)(N:Nat)(hN:N<=1099511627776)(a6:DOk S N)(hB:B<=w.1.size)(h:zw 111 113 B w p S fs):
  Calls prog 23 #[(O p),I keep] w fun e w'=>e=.returned (O w.1.size)/\∃X,zw 111 113 B w' w.1.size (zck S keep) X/\Below w.1.size w w'/\w.1.size<w'.1.size/\∀k,X.ownBlock=E k->w.1.size<=k:=by
 obtain⟨ah,ai,hn,a0⟩:=a6
 have V:=ze (zcG w.1.size w (J _))
 have hp:=h.lt
 obtain⟨a,ad,rfl⟩:=Yy h.row
 go_enter func23,ntmps23
 go_wp2_with(go_at_call 38;refine(ud V).mono ?_;rintro e w1 ⟨rfl,h1,Q,ab⟩;have c0:=(h.later Q).c0)
 go_loopw [7,8,15] (fun _ _ y wr=>∃(k:Nat) (v:Value),k<=S.files.length/\y=I k/\zw 111 113 w.1.size wr w.1.size ⟨yc keep S.files k,-1,false⟩ v/\Below w.1.size w wr) (fun _ _ y _=>S.files.length-(intOf y).toNat)
 case atStart=>exact⟨0,_,Nat.zero_le _,rfl,by rw[zcC];exact h1,Q⟩
 case round=>
  obtain⟨k,v,u,rfl,C,M⟩:=hrel
  have af:=Jq keep S.files k
  have Z:=h.later M
  clear c0 h1 Q ab
  by_cases a4:k<S.files.length
  ·obtain⟨a5,n,rfl⟩:=VM C.row
   obtain⟨f,hf⟩:=XO a4
   obtain⟨g,ac,a7,-⟩:=Z.files (by omega)
   injection a7 with a8 a9 aa
   subst a8
   obtain⟨x0,x1,x2,xf⟩:=Z.at hf
   obtain⟨a3,ae⟩:=a0 f (List.mem_of_getElem? hf)
   have HK:=ze (zcB (keep:=keep) hf)
   have ag:(k:Int)<S.files.length:=by omega
   have R:=C.c0
   have c0:=Z.c0
   have aj:=Z.lt
   have ak:=C.lt
   clear hf a9 aa xf
   by_cases hc:keep<(f.data.size:Int)-f.safe
   ·by_cases a2:keep<0
    ·have T:=ze (VD a3 a2 hc)
     go_wp2_with fail
     have j:Below wr.1.size wr (wr.alloc (.cells #[.string f.name,.string (f.data.extract 0 f.safe),I (f.safe:Nat)] 113)):=(K _ _).alloc (J _) _
     have i:(wr.alloc (.cells #[.string f.name,.string (f.data.extract 0 f.safe),I (f.safe:Nat)] 113)).1[wr.1.size]?=E (.cells #[.string f.name,.string (f.data.extract 0 f.safe),I (f.safe:Nat)] 113 (0,0)):=heap_alloc_last _ _
     have G:(wr.alloc (.cells #[.string f.name,.string (f.data.extract 0 f.safe),I (f.safe:Nat)] 113)).1.size=wr.1.size+1:=xP _ _
     generalize x:(wr.alloc (.cells #[.string f.name,.string (f.data.extract 0 f.safe),I (f.safe:Nat)] 113))=W at j i G ⊢
     have b:=C.later j
     have z0:=b.c0
     have z1:=b.free 0
     have b0:W.cell? (U wr.1.size 0)=E (.string f.name):=by rw[xO i];rfl
     have b1:W.cell? (U wr.1.size 1)=E (.string (f.data.extract 0 f.safe)):=by rw[xO i];rfl
     have b2:W.cell? (U wr.1.size 2)=E (I (f.safe:Nat)):=by rw[xO i];rfl
     have q:=ze b.row
     have t:=b.lt
     have F:=M.size
     have za:∀o:Obj,(W.alloc o).cell? (U w.1.size 0)=E (.slice a5 (yc keep S.files k).length n):=fun o=>(((K W.1.size W).alloc (J _) o).cell (p:=(U w.1.size 0)) t).trans z0
     have zb:∀o:Obj,(W.alloc o).cell? (U wr.1.size 0)=E (.string f.name):=fun o=>(((K W.1.size W).alloc (J _) o).cell (p:=(U wr.1.size 0)) (show wr.1.size<_ by omega)).trans b0
     clear x R x0 x1 x2
     go_region_law (refine vU rfl (.tmp 46) (.tmp 48) rfl w.1.size _ (yc keep S.files k) ⟨f.name,(f.data.extract 0 f.safe),f.safe⟩ (by simp[Act.eval]) (Kj ((ud q).alloc _)) W.1.size (by simp[Act.eval];first|done|omega) (vP _ _) ?hll ?hbb ?_;(case hll=>omega);(case hbb=>(rw[KB];omega));intro Y r H s d a1 P;have c:=Qm d;clear d;have D:zh (foot w.1.size (.slice a5 (yc keep S.files k).length n)) W H:=zh.grown ((zh.refl _ _).alloc _) c (fun k u _=> .inr u);have l:H.1[w.1.size]?=W.1[w.1.size]?:=(c.block w.1.size (by rw[xP];omega) (fun e=>b.apart (by decide) e.symm)).trans (Below.heap_alloc _ _ _ t);have R:=(World.cell?_of_block (a:=(U w.1.size 0)) l).trans z0;have d1:=(World.frozen?_of_block (a:=(U w.1.size 0)) l).trans z1;have z:Below w.1.size w H:=(M.trans (j.mono F)).trans (((K _ _).alloc (by omega) _).grown c (by rw[xP];omega) (fun k u=>(b.row.lt k u).1)))
     all_goals
      go_wp2_with fail
      obtain⟨L,hK⟩:=b.setFiles (by decide) D l s
      have A:=z.setCell (p:=(U w.1.size 0)) (J _) (.slice (E (U Y 0)) ((yc keep S.files k).length+1) r)
      rw[<-ud T,<-ud HK]at L
      exact⟨⟨k+1,_,by omega,by go_num,L,A⟩,by simp[intOf];omega⟩
    ·obtain⟨m,rfl⟩:=Int.eq_ofNat_of_zero_le (show 0<=keep by omega)
     have T:=ze (zfo hc)
     go_wp2_with fail
     have j:Below wr.1.size wr (wr.alloc (.cells #[.string f.name,.string (f.data.extract 0 (f.safe+m)),I (min (f.safe+m) f.data.size:Nat)] 113)):=(K _ _).alloc (J _) _
     have i:(wr.alloc (.cells #[.string f.name,.string (f.data.extract 0 (f.safe+m)),I (min (f.safe+m) f.data.size:Nat)] 113)).1[wr.1.size]?=E (.cells #[.string f.name,.string (f.data.extract 0 (f.safe+m)),I (min (f.safe+m) f.data.size:Nat)] 113 (0,0)):=heap_alloc_last _ _
     have G:(wr.alloc (.cells #[.string f.name,.string (f.data.extract 0 (f.safe+m)),I (min (f.safe+m) f.data.size:Nat)] 113)).1.size=wr.1.size+1:=xP _ _
     generalize x:(wr.alloc (.cells #[.string f.name,.string (f.data.extract 0 (f.safe+m)),I (min (f.safe+m) f.data.size:Nat)] 113))=W at j i G ⊢
     have b:=C.later j
     have z0:=b.c0
     have z1:=b.free 0
     have b0:W.cell? (U wr.1.size 0)=E (.string f.name):=by rw[xO i];rfl
     have b1:W.cell? (U wr.1.size 1)=E (.string (f.data.extract 0 (f.safe+m))):=by rw[xO i];rfl
     have b2:W.cell? (U wr.1.size 2)=E (I (min (f.safe+m) f.data.size:Nat)):=by rw[xO i];rfl
     have q:=ze b.row
     have t:=b.lt
     have F:=M.size
     have za:∀o:Obj,(W.alloc o).cell? (U w.1.size 0)=E (.slice a5 (yc m S.files k).length n):=fun o=>(((K W.1.size W).alloc (J _) o).cell (p:=(U w.1.size 0)) t).trans z0
     have zb:∀o:Obj,(W.alloc o).cell? (U wr.1.size 0)=E (.string f.name):=fun o=>(((K W.1.size W).alloc (J _) o).cell (p:=(U wr.1.size 0)) (show wr.1.size<_ by omega)).trans b0
     clear x R x0 x1 x2
     go_region_law (refine vU rfl (.tmp 46) (.tmp 48) rfl w.1.size _ (yc m S.files k) ⟨f.name,(f.data.extract 0 (f.safe+m)),min (f.safe+m) f.data.size⟩ (by simp[Act.eval]) (Kj ((ud q).alloc _)) W.1.size (by simp[Act.eval];first|done|omega) (vP _ _) ?hll ?hbb ?_;(case hll=>omega);(case hbb=>(rw[KB];omega));intro Y r H s d a1 P;have c:=Qm d;clear d;have D:zh (foot w.1.size (.slice a5 (yc m S.files k).length n)) W H:=zh.grown ((zh.refl _ _).alloc _) c (fun k u _=> .inr u);have l:H.1[w.1.size]?=W.1[w.1.size]?:=(c.block w.1.size (by rw[xP];omega) (fun e=>b.apart (by decide) e.symm)).trans (Below.heap_alloc _ _ _ t);have R:=(World.cell?_of_block (a:=(U w.1.size 0)) l).trans z0;have d1:=(World.frozen?_of_block (a:=(U w.1.size 0)) l).trans z1;have z:Below w.1.size w H:=(M.trans (j.mono F)).trans (((K _ _).alloc (by omega) _).grown c (by rw[xP];omega) (fun k u=>(b.row.lt k u).1)))
     all_goals
      go_wp2_with fail
      obtain⟨L,hK⟩:=b.setFiles (by decide) D l s
      have A:=z.setCell (p:=(U w.1.size 0)) (J _) (.slice (E (U Y 0)) ((yc m S.files k).length+1) r)
      rw[<-ud T,<-ud HK]at L
      exact⟨⟨k+1,_,by omega,by go_num,L,A⟩,by simp[intOf];omega⟩
   ·have T:=ze (VC a3 hc)
    go_wp2_with fail
    have j:Below wr.1.size wr (wr.alloc (.cells #[.string f.name,.string f.data,I (f.data.size:Nat)] 113)):=(K _ _).alloc (J _) _
    have i:(wr.alloc (.cells #[.string f.name,.string f.data,I (f.data.size:Nat)] 113)).1[wr.1.size]?=E (.cells #[.string f.name,.string f.data,I (f.data.size:Nat)] 113 (0,0)):=heap_alloc_last _ _
    have G:(wr.alloc (.cells #[.string f.name,.string f.data,I (f.data.size:Nat)] 113)).1.size=wr.1.size+1:=xP _ _
    generalize x:(wr.alloc (.cells #[.string f.name,.string f.data,I (f.data.size:Nat)] 113))=W at j i G ⊢
    have b:=C.later j
    have z0:=b.c0
    have z1:=b.free 0
    have b0:W.cell? (U wr.1.size 0)=E (.string f.name):=by rw[xO i];rfl
    have b1:W.cell? (U wr.1.size 1)=E (.string f.data):=by rw[xO i];rfl
    have b2:W.cell? (U wr.1.size 2)=E (I (f.data.size:Nat)):=by rw[xO i];rfl
    have q:=ze b.row
    have t:=b.lt
    have F:=M.size
    have za:∀o:Obj,(W.alloc o).cell? (U w.1.size 0)=E (.slice a5 (yc keep S.files k).length n):=fun o=>(((K W.1.size W).alloc (J _) o).cell (p:=(U w.1.size 0)) t).trans z0
    have zb:∀o:Obj,(W.alloc o).cell? (U wr.1.size 0)=E (.string f.name):=fun o=>(((K W.1.size W).alloc (J _) o).cell (p:=(U wr.1.size 0)) (show wr.1.size<_ by omega)).trans b0
    clear x R x0 x1 x2
    go_region_law (refine vU rfl (.tmp 46) (.tmp 48) rfl w.1.size _ (yc keep S.files k) ⟨f.name,f.data,f.data.size⟩ (by simp[Act.eval]) (Kj ((ud q).alloc _)) W.1.size (by simp[Act.eval];first|done|omega) (vP _ _) ?hll ?hbb ?_;(case hll=>omega);(case hbb=>(rw[KB];omega));intro Y r H s d a1 P;have c:=Qm d;clear d;have D:zh (foot w.1.size (.slice a5 (yc keep S.files k).length n)) W H:=zh.grown ((zh.refl _ _).alloc _) c (fun k u _=> .inr u);have l:H.1[w.1.size]?=W.1[w.1.size]?:=(c.block w.1.size (by rw[xP];omega) (fun e=>b.apart (by decide) e.symm)).trans (Below.heap_alloc _ _ _ t);have R:=(World.cell?_of_block (a:=(U w.1.size 0)) l).trans z0;have d1:=(World.frozen?_of_block (a:=(U w.1.size 0)) l).trans z1;have z:Below w.1.size w H:=(M.trans (j.mono F)).trans (((K _ _).alloc (by omega) _).grown c (by rw[xP];omega) (fun k u=>(b.row.lt k u).1)))
    all_goals
     go_wp2_with fail
     obtain⟨L,hK⟩:=b.setFiles (by decide) D l s
     have A:=z.setCell (p:=(U w.1.size 0)) (J _) (.slice (E (U Y 0)) ((yc keep S.files k).length+1) r)
     rw[<-ud T,<-ud HK]at L
     exact⟨⟨k+1,_,by omega,by go_num,L,A⟩,by simp[intOf];omega⟩
  ·have e:k=S.files.length:=by omega
   rw[e,zfp]at C
   have c0:=Z.c0
   clear e
   go_wp2_with fail
   go_ret
   exact⟨rfl,v,⟨C.head,hB,Zs C.row hB⟩,M,C.lt,fun k u=>(C.row.lt k u).1⟩
end Go.Proofs.YtndhpgciopcncaaGreatDoor
