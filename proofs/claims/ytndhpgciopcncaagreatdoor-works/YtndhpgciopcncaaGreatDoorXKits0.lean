import Derived.Test.YtndhpgciopcncaaGreatDoorXConf0
open Option renaming some → Q
open Nat renaming le_refl → Y
open Go renaming World → Z
open Go.RowKit.Below renaming refl → A
set_option linter.unusedVariables false
set_option maxRecDepth 100000
set_option maxHeartbeats 1000000
open Go.Proofs.Tryz
namespace Go.Proofs.YtndhpgciopcncaaGreatDoor
open Go.ChangeMaps (setBlock)
open Go.RowKit Go.Maps Go.Shelf
variable {es:Array MapEntry} {L:LV} {e:MapEntry} {clock m n:Nat} {ex:Nat->Prop} {w:Z}
structure Jk where
 kd:Int
 s:Sg
deriving DecidableEq
structure Tok where
 ep:Int
 num:Int
deriving DecidableEq
def Jk.wf(k:Jk):Prop:=xX k.kd/\k.s.wf
def Tok.wf(k:Tok):Prop:=xX k.ep/\xX k.num
def JZ(k:Jk):Value:=.agg #[I k.kd,I k.s.t,I k.s.se,I k.s.we]
def yy(k:Tok):Value:=.agg #[I k.ep,I k.num]
def vO(x:Lse):Value:=.agg (lZz x)
def Qw(x:Tsk):Value:=.agg (tZz x)
theorem zqk:(162:TypeId)<prog.types.size:=of_decide_eq_true (by kernel_rfl)
theorem zqj:Keyed prog 162:=Keyed.of_law (deep_law_laid Tryz.laidOut (m:=3) (Nat.le_of_ble_eq_true rfl) zqk (by kernel_rfl) (by kernel_rfl))
theorem zpR:(49:TypeId)<prog.types.size:=of_decide_eq_true (by kernel_rfl)
theorem zpQ:Keyed prog 49:=Keyed.of_law (deep_law_laid Tryz.laidOut (m:=2) (Nat.le_of_ble_eq_true rfl) zpR (by kernel_rfl) (by kernel_rfl))
theorem zeE:prog.cellsOf 162=4:=by kernel_rfl
theorem zct:prog.cellsOf 49=2:=by kernel_rfl
theorem znK:prog.keyType 162=true:=by kernel_rfl
theorem zmz:prog.keyType 49=true:=by kernel_rfl
theorem zpq{a b:Jk}(h:JZ a=JZ b):a=b:=by
 unfold JZ at h;injection h with h;injection h with h;injection h with c h;injection h with d h;injection h with e h;injection h with f h;injection c with _ c;injection d with _ d;injection e with _ e;injection f with _ f;obtain⟨_,_,_,_⟩:=a;obtain⟨_,_,_,_⟩:=b;simp at*;exact⟨c,d,e,f⟩
theorem zku{a b:Tok}(h:yy a=yy b):a=b:=by
 unfold yy at h;injection h with h;injection h with h;injection h with c h;injection h with d h;injection c with _ c;injection d with _ d;cases a;cases b;simp at*;exact⟨c,d⟩
theorem zbw:∃m,prog.types.size=m+2:=by
 have h:1<prog.types.size:=of_decide_eq_true (by kernel_rfl);exact⟨prog.types.size-2,by omega⟩
theorem zpr{k:Jk}(h:k.wf):∃l,keyOf prog 162 (JZ k)=Q l:=by
 obtain⟨m,j⟩:=zbw;obtain⟨b,c,d,e⟩:=h;have f:(JZ k).formed prog 162=true:=by
  simp[Value.formed,JZ,underlying162,zeE]
 unfold keyOf;simp only[underlying162,znK,f,Bool.and_self,if_true];have:∃ls,prog.keyLits (prog.types.size+1) 162 (JZ k).cells.toList=Q ls:=by
  rw[j];simp[Program.keyLits,underlying162,underlying146,underlying3,JZ,Value.cells,zeE,KF,Ky,zmD b,zmD c,zmD d,zmD e];rw[if_pos (fun i g=>by match i,g with|0,_=>simp|1,_=>simp|2,_=>simp)]
  exact⟨_,rfl⟩
 obtain⟨ls,a⟩:=this;exact⟨_,by rw[a];rfl⟩
theorem zoF{k:Tok}(h:k.wf):∃f,keyOf prog 49 (yy k)=Q f:=by
 obtain⟨m,e⟩:=zbw;obtain⟨b,c⟩:=h;have d:(yy k).formed prog 49=true:=by
  simp[Value.formed,yy,underlying49,zct]
 unfold keyOf;simp only[underlying49,zmz,d,Bool.and_self,if_true];have:∃ls,prog.keyLits (prog.types.size+1) 49 (yy k).cells.toList=Q ls:=by
  rw[e];simp[Program.keyLits,underlying49,underlying3,yy,Value.cells,zct,Ky,zmD b,zmD c]
 obtain⟨ls,a⟩:=this;exact⟨_,by rw[a];rfl⟩
noncomputable def jE:MK Sg Unit:={P:=prog,T:=153,K:=146,E:=257,ke:=vl,ve:=fun _=> .agg #[],wf:=Sg.wf,z:=.agg #[]}
noncomputable def qh:MK Jk Tsk:={P:=prog,T:=169,K:=162,E:=177,ke:=JZ,ve:=Qw,wf:=Jk.wf,z:=.agg #[.nilIface,I 0,I 0,I 0]}
noncomputable def xJ:MK Tok Lse:={P:=prog,T:=168,K:=49,E:=164,ke:=yy,ve:=vO,wf:=Tok.wf,z:=.agg #[I 0,I 0,I 0,I 0,I 0,I 0]}
theorem Xv:jE.Ok:=⟨Qg,underlying153,fun a h=>zck h,fun a b h=>zeY h,fun w=>by kernel_rfl⟩
theorem yZ:qh.Ok:=⟨zqj,underlying169,fun a h=>zpr h,fun a b h=>zpq h,fun w=>by kernel_rfl⟩
theorem yu:xJ.Ok:=⟨zpQ,underlying168,fun a h=>zoF h,fun a b h=>zku h,fun w=>by kernel_rfl⟩
noncomputable def yG:MK Sg SX:={P:=prog,T:=152,K:=146,E:=148,ke:=vl,ve:=vx,wf:=Sg.wf,z:=vx zX}
theorem Xz:yG.Ok:=⟨Qg,underlying152,fun a h=>zck h,fun a b h=>zeY h,fun w=>by kernel_rfl⟩
def vZ(L:LV):List (Sg×SX):=L.map (fun p=>(p.1,p))
theorem J5(L:LV):zx (vZ L)=zw L:=by unfold zx vZ zw;rw[List.map_map];rfl
theorem KS(L:LV):(vZ L).length=L.length:=by simp[vZ]
theorem zbF{q:Sg×SX}(h:q∈vZ L):q.2∈L/\q.1=q.2.1:=by
 obtain⟨p,a,rfl⟩:=List.mem_map.1 h;exact⟨a,rfl⟩
theorem KT{ps:List (Sg×SX)}(h:ps.Perm (vZ L)):(ps.map (fun p:Sg×SX=>p.2)).Perm L:=by
 have:=h.map (fun p:Sg×SX=>p.2);unfold vZ at this;rw[List.map_map]at this;have e:L.map ((fun p:Sg×SX=>p.2)∘fun p=>(p.1,p))=L:=by
  conv=>rhs;rw[<-List.map_id L]
  rfl
 rwa[e]at this
theorem qF{b:Nat}:vm w b L↔xn yG w b (vZ L):=
 ⟨fun⟨es,cl,h,e⟩=>⟨es,cl,h,⟨by rw[e.kv,vZ,List.map_map];rfl,e.born,e.once,fun q c=>by obtain⟨p,a,rfl⟩:=List.mem_map.1 c;exact e.wf p a,by rw[J5];exact e.nodup,e.size⟩⟩,
  fun⟨es,cl,h,e⟩=>⟨es,cl,h,⟨by rw[e.kv,vZ,List.map_map];rfl,e.born,e.once,fun p a=>e.wf (p.1,p) (List.mem_map.2 ⟨p,a,rfl⟩),by rw[<-J5];exact e.nodup,e.size⟩⟩⟩
theorem Z8.imp{α:Type}{P:Program}{g:Nat}{lb:Array Value}{encs:α->Array Value}{S S':List α->Prop}{N:Nat}(h:Z8 ex n P g lb encs S N w)(p:∀xs,S xs->S' xs):Z8 ex n P g lb encs S' N w:=fun m q l J j W a b c d e f=>(h m q l J j W a b c d e f).mono (by
 rintro e w ⟨i,⟨xs,k,o⟩|h⟩
 ·exact⟨i,.inl ⟨xs,p _ k,o⟩⟩
 ·exact⟨i,.inr h⟩)
section
variable {α β:Type} [Inhabited α] [Inhabited β] {M:MK α β}
noncomputable def kH (M:MK α β) (L:List (α×β)) (e:MapEntry):α×β:=by
 classical exact if h:∃p∈L,e.key=M.ke p.1/\e.val=M.ve p.2 then h.choose else default
theorem zmK(ok:M.Ok){L:List (α×β)}(hn:(zx L).Nodup){p:α×β}(o:p∈L)(l:e.key=M.ke p.1)(q:e.val=M.ve p.2):kH M L e=p:=by
 unfold kH;have h:∃p∈L,e.key=M.ke p.1/\e.val=M.ve p.2:=⟨p,o,l,q⟩;rw[dif_pos h];obtain⟨s,r,_⟩:=h.choose_spec;have k:h.choose.1=p.1:=ok.inj _ _ (r.symm.trans l);have d:L.Pairwise (fun a b=>a.1≠b.1):=List.pairwise_map.1 hn;obtain⟨i,m,f⟩:=List.getElem_of_mem s;obtain⟨j,n,g⟩:=List.getElem_of_mem o;rcases Nat.lt_trichotomy i j with c|c|c
 ·have:=List.pairwise_iff_getElem.1 d i j m n c;rw[f,g]at this;exact absurd k this
 ·subst c;rw[<-f,g]
 ·have:=List.pairwise_iff_getElem.1 d j i n m c;rw[f,g]at this;exact absurd k.symm this
theorem Xc(ok:M.Ok){L:List (α×β)}(d:ju M es clock L)(h:e∈es.toList):kH M L e∈L/\e.key=M.ke (kH M L e).1/\e.val=M.ve (kH M L e).2:=by
 obtain⟨i,f⟩:=List.mem_iff_getElem?.1 h;obtain⟨p,g,b,c⟩:=d.at f;have a:=List.mem_of_getElem? g;rw[zmK ok d.nodup a b c];exact⟨a,b,c⟩
theorem znu(ok:M.Ok){L:List (α×β)}(b:ju M es clock L):es.toList.map (kH M L)=L:=by
 apply List.ext_getElem?;intro i;rw[List.getElem?_map];cases h:es.toList[i]? with
 |none=>
  have a:es.toList.length<=i:=List.getElem?_eq_none_iff.1 h;have c:=b.count;rw[List.getElem?_eq_none (by simp at a;omega)];rfl
 |some e=>
  obtain⟨p,d,a,c⟩:=b.at h;rw[d,Option.map_some,zmK ok b.nodup (List.mem_of_getElem? d) a c]
theorem jR(ok:M.Ok){L:List (α×β)}(a:ju M es clock L){ps:List MapEntry}(b:ps.Perm es.toList):(ps.map (kH M L)).Perm L:=by
 have:=b.map (kH M L);rwa[znu ok a]at this
end
instance:Inhabited SV:=⟨⟨0,qL⟩⟩
instance:Inhabited Lse:=⟨⟨0,⟨0,0,0⟩,0,0⟩⟩
instance:Inhabited Tsk:=⟨⟨true,⟨0,0,0⟩,0,0,0⟩⟩
instance:Inhabited Jk:=⟨⟨0,⟨0,0,0⟩⟩⟩
instance:Inhabited Tok:=⟨⟨0,0⟩⟩
instance:Inhabited Sg:=⟨⟨0,0,0⟩⟩
attribute [local go_sem] Oper.semAt_some
theorem zls(l Bm b:Nat)(L:List (Sg×SX))(a8:¬ex b)(J Jx:List SX->Z->Prop)(W:Z)(aa:m<=W.1.size)(hJ:OwnFrom W.1.size J)(G:OwnFrom W.1.size Jx)(hY:∀d x V,J d V->d.length<L.length->YieldAt Fence.wide 5 prog l #[.agg (xZz x)] V fun e V'=>(e=.returned (.bool true)/\J (d++[x]) V'/\KX ex n m V V')\/(e=.returned (.bool false)/\Jx (d++[x]) V'/\KX ex n m V V'))(hm:W.cell? (U Bm 0)=Q (.map (Q b)))(R:xn yG W b L)(h0:J [] W):
  CallsIn Fence.wide 6 prog 150 #[.func (.yield l) #[] #[],(O Bm)] W fun e W'=>(∃v,e=.returned v)/\
   ((∃xs,(∃ps:List (Sg×SX),ps.Perm L/\xs=ps.map (fun p:Sg×SX=>p.2))/\J xs W')\/(∃d,True/\Jx d W')):=by
 obtain⟨es,clock,hb,M⟩:=R;have a5:=zd hb;have c:=run_range_map (P:=prog) W 152 _ _ b es clock underlying152 hb;have HE:=ze M;have j:=ze hJ;have ac:=M.count;refine callsIn_of_wp func150 rfl trivial ?_ rfl;simp only[ntmps150,sZz,Nat.reduceAdd,Nat.reduceSub];gi_wp2;gi_loopw [4] (fun _ wr=>∃(seen:Array Nat) (E:Nat) (ps:List MapEntry),wr.1[W.1.size]?=Q (.mapIter (Q b) clock seen E)/\clock<=E/\wr.1[b]?=Q (.map es clock)/\zee es seen ps/\J ((ps.map (kH yG L)).map (fun p:Sg×SX=>p.2)) wr)
  (fun _ wr=>Zc es W.1.size wr)
 case atStart=>
  exact⟨#[],clock,[],zo _ _,Y _,(Below.heap_alloc _ _ _ a5).trans hb,⟨by simp,by simp,by simp⟩,xc (ud j) h0 ((A _ _).alloc (Y _) _)⟩
 case round=>
  obtain⟨seen,E,ps,z,a6,q,hC,F⟩:=hrel;have ab:=zd z;have HC:=ze hC;rcases run_next_at (P:=prog) wr 0 W.1.size b clock E seen es clock z q (ud HE).born a6 with⟨hz,a⟩|⟨e,g,w1,h,a⟩
  ·have HZ:=ze hz;clear c hz hC M hJ G;gi_wp2;go_end0;exact⟨⟨_,rfl⟩,.inl ⟨_,⟨_,jR Xz HE (HC.all HE.once HZ),rfl⟩,F⟩⟩
  ·have B:=ze g;obtain⟨s,_⟩:=xH.1 g;have S:w1.1[W.1.size]?=Q (.mapIter (Q b) clock seen E):=(by rcases h with rfl|rfl<;>exact z);have I:w1.1[b]?=Q (.map es clock):=(by rcases h with rfl|rfl<;>exact q);have a9:b≠W.1.size:=(by omega);obtain⟨X,w⟩:∃X,setBlock w1 W.1.size (.mapIter (Q b) clock (seen.push e.born) clock)=X:=⟨_,rfl⟩;have o:X.1[W.1.size]?=Q (.mapIter (Q b) clock (seen.push e.born) clock):=(by rw[<-w];exact xL (zd S) _);have k:X.1[b]?=Q (.map es clock):=(by rw[<-w,xr a9];exact I);have N:wr.grownBy X (Q W.1.size):=by
    rw[<-w];rcases h with rfl|rfl
    ·exact xA _ _ _
    ·have:=xA wr.drew W.1.size (.mapIter (Q b) clock (seen.push e.born) clock);exact⟨this.os,this.tape,this.output,this.size,this.block⟩
   rw[w]at a;have i:=run_entry_at (P:=prog) X W.1.size b clock seen es clock e o k s HE.once;obtain⟨a7,hk,hv⟩:=Xc Xz M s;have f:e.val=vx ((kH yG L e).2):=hv;unfold vx at f;rw[f]at a i;have a3:J ((ps.map (kH yG L)).map (fun p:Sg×SX=>p.2)) X:=ud j _ wr X (Q W.1.size) F N (fun r e=>by cases e;exact⟨Y _,_,z,rfl⟩);obtain⟨y,u⟩:∃y,(kH yG L e).2=y:=⟨_,rfl⟩;have a1:Hid ((fun p:Sg×SX=>p.2) (kH yG L e)=y):=u;rw[u]at a i;have K:=(A X.1.size X).alloc (Y _) (.cells (xZz y) 148);obtain⟨fn,tmps,assign,body,hy,hR⟩:=hY ((ps.map (kH yG L)).map (fun p:Sg×SX=>p.2)) y _ (xc (ud j) a3 K) (by rw[List.length_map,List.length_map];have:=hC.lt g;omega);have D:=ze o;have C:=ze k;have HX:=ze w;have a0:=ze z;clear c hC M o k w s S I hv hk N f z q g h a7 u K hJ G;gi_wp2;refine hR.mono ?_;rintro e3 W3 (⟨rfl,a2,t⟩|⟨rfl,H,t⟩)
   ·gi_wp2;have T:=t.high W.1.size _ (by omega) (fun⟨_,_,e⟩=>by cases e) ((Below.heap_alloc _ _ _ (zd D)).trans D);have a4:=t.walk b _ a8 ((Below.heap_alloc _ _ _ (zd C)).trans C) rfl;go_roundw;case rel=>exact⟨_,_,ps++[e],T,Y _,a4,(ud HC).step (ud B),by rw[List.map_append,List.map_append,List.map_singleton,List.map_singleton,ud a1];exact a2⟩
    case measure=>rw[xw T,xw (ud a0)];exact qT B
   ·gi_wp2;refine bodyPost_ret (results_none rfl _ _ _) rfl ?_;exact⟨⟨_,rfl⟩,.inr ⟨_,trivial,H⟩⟩
theorem JY(b:Nat)(w:Z):
  Calls prog 88 #[.map (Q b)] w fun e w'=>e=.returned (.func (.func 150) #[] #[(O w.1.size)])/\w'=w.alloc (.cells #[.map (Q b)] 152):=by
 go_in;go_wp2_with fail;go_ret;exact⟨rfl,rfl⟩
theorem zlt(Bm b:Nat)(L:List (Sg×SX))(w:Z)(e:¬ex b)(c:Bm<w.1.size)(o:w.cell? (U Bm 0)=Q (.map (Q b)))(a:xn yG w b L):
  Z8 ex n prog 150 #[(O Bm)] (fun x:SX=>#[.agg (xZz x)]) (fun xs=>∃ps:List (Sg×SX),ps.Perm L/\xs=ps.map (fun p:Sg×SX=>p.2)) L.length w:=
 fun m q l J h W g f j d k i=>zls l Bm b L e J h W f j d k ((g.cell (p:=(U Bm 0)) c).trans o) (a.later g) i
theorem zde:∀args w,(callFunc 150 args).run prog w=.ok (.enter 150 args) w:=enters_of func150 (by kernel_rfl) rfl
theorem zih(Bm b:Nat)(L:LV)(w:Z)(d:¬ex b)(c:Bm<w.1.size)(f:w.cell? (U Bm 0)=Q (.map (Q b)))(a:xn yG w b (vZ L)):
  Z8 ex n prog 150 #[(O Bm)] (fun x:SX=>#[.agg (xZz x)]) (fun xs=>xs.Perm L) L.length w:=by
 have h:=(zlt (n:=n) Bm b (vZ L) w d c f a).imp (S':=fun xs=>xs.Perm L) (fun xs ⟨ps,h,e⟩=>by rw[e];exact KT h);rwa[KS]at h
attribute [local go_sem] Oper.semAt_some
theorem zlq{α:Type}(k:α->Sg)(j:Sg->α)(l Bm b:Nat)(L:List (Sg×SX))(ac:∀p∈L,k (j p.1)=p.1)(ab:¬ex b)(J Jx:List α->Z->Prop)(W:Z)(ae:m<=W.1.size)(hJ:OwnFrom W.1.size J)(M:OwnFrom W.1.size Jx)(hY:∀d x V,J d V->d.length<L.length->YieldAt Fence.wide 5 prog l #[.agg #[I (k x).t,I (k x).se,I (k x).we]] V fun e V'=>(e=.returned (.bool true)/\J (d++[x]) V'/\KX ex n m V V')\/(e=.returned (.bool false)/\Jx (d++[x]) V'/\KX ex n m V V'))(hm:W.cell? (U Bm 0)=Q (.map (Q b)))(a1:xn yG W b L)(h0:J [] W):
  CallsIn Fence.wide 6 prog 233 #[.func (.yield l) #[] #[],(O Bm)] W fun e W'=>(∃v,e=.returned v)/\
   ((∃xs,(∃ps:List (Sg×SX),ps.Perm L/\xs=ps.map (fun p:Sg×SX=>j p.1))/\J xs W')\/(∃d,True/\Jx d W')):=by
 obtain⟨es,clock,hb,he⟩:=a1;have a9:=zd hb;have c:=run_range_map (P:=prog) W 152 _ _ b es clock underlying152 hb;have HE:=ze he;have o:=ze hJ;have ag:=he.count;refine callsIn_of_wp func233 rfl trivial ?_ rfl;simp only[ntmps233,sZz,Nat.reduceAdd,Nat.reduceSub];gi_wp2;gi_loopw [3] (fun _ wr=>∃(seen:Array Nat) (H:Nat) (ps:List MapEntry),wr.1[W.1.size]?=Q (.mapIter (Q b) clock seen H)/\clock<=H/\wr.1[b]?=Q (.map es clock)/\zee es seen ps/\J ((ps.map (kH yG L)).map (fun p:Sg×SX=>j p.1)) wr)
  (fun _ wr=>Zc es W.1.size wr)
 case atStart=>
  exact⟨#[],clock,[],zo _ _,Y _,(Below.heap_alloc _ _ _ a9).trans hb,⟨by simp,by simp,by simp⟩,xc (ud o) h0 ((A _ _).alloc (Y _) _)⟩
 case round=>
  obtain⟨seen,H,ps,D,aa,u,hC,K⟩:=hrel;have af:=zd D;have HC:=ze hC;rcases run_next_at (P:=prog) wr 0 W.1.size b clock H seen es clock D u (ud HE).born aa with⟨hz,a⟩|⟨e,g,w1,h,a⟩
  ·have HZ:=ze hz;clear c hz hC he hJ M;gi_wp2;go_end0;exact⟨⟨_,rfl⟩,.inl ⟨_,⟨_,jR Xz HE (HC.all HE.once HZ),rfl⟩,K⟩⟩
  ·have E:=ze g;obtain⟨w,_⟩:=xH.1 g;have a2:w1.1[W.1.size]?=Q (.mapIter (Q b) clock seen H):=(by rcases h with rfl|rfl<;>exact D);have R:w1.1[b]?=Q (.map es clock):=(by rcases h with rfl|rfl<;>exact u);have ad:b≠W.1.size:=(by omega);obtain⟨X,C⟩:∃X,setBlock w1 W.1.size (.mapIter (Q b) clock (seen.push e.born) clock)=X:=⟨_,rfl⟩;have s:X.1[W.1.size]?=Q (.mapIter (Q b) clock (seen.push e.born) clock):=(by rw[<-C];exact xL (zd a2) _);have q:X.1[b]?=Q (.map es clock):=(by rw[<-C,xr ad];exact R);have a0:wr.grownBy X (Q W.1.size):=by
    rw[<-C];rcases h with rfl|rfl
    ·exact xA _ _ _
    ·have:=xA wr.drew W.1.size (.mapIter (Q b) clock (seen.push e.born) clock);exact⟨this.os,this.tape,this.output,this.size,this.block⟩
   rw[C]at a;have i:=run_entry_at (P:=prog) X W.1.size b clock seen es clock e s q w HE.once;obtain⟨T,hk,hv⟩:=Xc Xz he w;have f:e.key=vl (k (j (kH yG L e).1)):=(by rw[ac _ T];exact hk);unfold vl at f;rw[f]at a i;have a7:J ((ps.map (kH yG L)).map (fun p:Sg×SX=>j p.1)) X:=ud o _ wr X (Q W.1.size) K a0 (fun r e=>by cases e;exact⟨Y _,_,D,rfl⟩);obtain⟨y,B⟩:∃y,j (kH yG L e).1=y:=⟨_,rfl⟩;have a5:Hid ((fun p:Sg×SX=>j p.1) (kH yG L e)=y):=B;rw[B]at a i;have S:=(A X.1.size X).alloc (Y _) (.cells #[I (k y).t,I (k y).se,I (k y).we] 146);obtain⟨fn,tmps,assign,body,hy,hR⟩:=hY ((ps.map (kH yG L)).map (fun p:Sg×SX=>j p.1)) y _ (xc (ud o) a7 S) (by rw[List.length_map,List.length_map];have:=hC.lt g;omega);have G:=ze s;have F:=ze q;have HX:=ze C;have a4:=ze D;clear c hC he s q C w a2 R hv hk a0 f D u g h T B S hJ M;gi_wp2;refine hR.mono ?_;rintro e3 W3 (⟨rfl,a6,z⟩|⟨rfl,N,z⟩)
   ·gi_wp2;have a3:=z.high W.1.size _ (by omega) (fun⟨_,_,e⟩=>by cases e) ((Below.heap_alloc _ _ _ (zd G)).trans G);have a8:=z.walk b _ ab ((Below.heap_alloc _ _ _ (zd F)).trans F) rfl;go_roundw;case rel=>exact⟨_,_,ps++[e],a3,Y _,a8,(ud HC).step (ud E),by rw[List.map_append,List.map_append,List.map_singleton,List.map_singleton,ud a5];exact a6⟩
    case measure=>rw[xw a3,xw (ud a4)];exact qT E
   ·gi_wp2;refine bodyPost_ret (results_none rfl _ _ _) rfl ?_;exact⟨⟨_,rfl⟩,.inr ⟨_,trivial,N⟩⟩
theorem JX(b:Nat)(w:Z):
  Calls prog 173 #[.map (Q b)] w fun e w'=>e=.returned (.func (.func 233) #[] #[(O w.1.size)])/\w'=w.alloc (.cells #[.map (Q b)] 152):=by
 go_in;go_wp2_with fail;go_ret;exact⟨rfl,rfl⟩
theorem zlr{α:Type}(c:α->Sg)(i:Sg->α)(Bm b:Nat)(L:List (Sg×SX))(h:∀p∈L,c (i p.1)=p.1)(w:Z)(f:¬ex b)(d:Bm<w.1.size)(s:w.cell? (U Bm 0)=Q (.map (Q b)))(a:xn yG w b L):
  Z8 ex n prog 233 #[(O Bm)] (fun x:α=>#[.agg #[I (c x).t,I (c x).se,I (c x).we]]) (fun xs=>∃ps:List (Sg×SX),ps.Perm L/\xs=ps.map (fun p:Sg×SX=>i p.1)) L.length w:=
 fun m u l J k W j g q e r o=>zlq c i l Bm b L h f J k W g q e r ((j.cell (p:=(U Bm 0)) d).trans s) (a.later j) o
theorem zdd:∀args w,(callFunc 233 args).run prog w=.ok (.enter 233 args) w:=enters_of func233 (by kernel_rfl) rfl
theorem zdk{α:Type}(d:α->Sg)(a:Sg->α)(Bm b:Nat)(L:LV)(i:∀p∈L,d (a p.1)=p.1)(w:Z)(g:¬ex b)(f:Bm<w.1.size)(m:w.cell? (U Bm 0)=Q (.map (Q b)))(c:xn yG w b (vZ L)):
  Z8 ex n prog 233 #[(O Bm)] (fun x:α=>#[.agg #[I (d x).t,I (d x).se,I (d x).we]]) (fun xs=>∃ps:List (Sg×SV),ps.Perm L/\xs=ps.map (fun p:Sg×SV=>a p.1)) L.length w:=by
 have h:=(zlr d a (n:=n) Bm b (vZ L) (fun q j=>by obtain⟨k,l⟩:=zbF j;rw[l];exact i _ k) w g f m c).imp (S':=fun xs=>∃ps:List (Sg×SV),ps.Perm L/\xs=ps.map (fun p:Sg×SV=>a p.1)) (fun xs ⟨ps,h,e⟩=>⟨_,KT h,by
  rw[e,List.map_map];refine List.map_congr_left (fun q j=>?_);show a q.1=a q.2.1;rw[(zbF (h.mem_iff.1 j)).2]⟩)
 rwa[KS]at h
attribute [local go_sem] Oper.semAt_some
theorem znH(l Bm b:Nat)(L:List (Tok×Lse))(a8:¬ex b)(J Jx:List Lse->Z->Prop)(W:Z)(aa:m<=W.1.size)(hJ:OwnFrom W.1.size J)(G:OwnFrom W.1.size Jx)(hY:∀d x V,J d V->d.length<L.length->YieldAt Fence.wide 5 prog l #[.agg (lZz x)] V fun e V'=>(e=.returned (.bool true)/\J (d++[x]) V'/\KX ex n m V V')\/(e=.returned (.bool false)/\Jx (d++[x]) V'/\KX ex n m V V'))(hm:W.cell? (U Bm 0)=Q (.map (Q b)))(R:xn xJ W b L)(h0:J [] W):
  CallsIn Fence.wide 6 prog 156 #[.func (.yield l) #[] #[],(O Bm)] W fun e W'=>(∃v,e=.returned v)/\
   ((∃xs,(∃ps:List (Tok×Lse),ps.Perm L/\xs=ps.map (fun p:Tok×Lse=>p.2))/\J xs W')\/(∃d,True/\Jx d W')):=by
 obtain⟨es,clock,hb,M⟩:=R;have a5:=zd hb;have c:=run_range_map (P:=prog) W 168 _ _ b es clock underlying168 hb;have HE:=ze M;have j:=ze hJ;have ac:=M.count;refine callsIn_of_wp func156 rfl trivial ?_ rfl;simp only[ntmps156,sZz,Nat.reduceAdd,Nat.reduceSub];gi_wp2;gi_loopw [4] (fun _ wr=>∃(seen:Array Nat) (E:Nat) (ps:List MapEntry),wr.1[W.1.size]?=Q (.mapIter (Q b) clock seen E)/\clock<=E/\wr.1[b]?=Q (.map es clock)/\zee es seen ps/\J ((ps.map (kH xJ L)).map (fun p:Tok×Lse=>p.2)) wr)
  (fun _ wr=>Zc es W.1.size wr)
 case atStart=>
  exact⟨#[],clock,[],zo _ _,Y _,(Below.heap_alloc _ _ _ a5).trans hb,⟨by simp,by simp,by simp⟩,xc (ud j) h0 ((A _ _).alloc (Y _) _)⟩
 case round=>
  obtain⟨seen,E,ps,z,a6,q,hC,F⟩:=hrel;have ab:=zd z;have HC:=ze hC;rcases run_next_at (P:=prog) wr 0 W.1.size b clock E seen es clock z q (ud HE).born a6 with⟨hz,a⟩|⟨e,g,w1,h,a⟩
  ·have HZ:=ze hz;clear c hz hC M hJ G;gi_wp2;go_end0;exact⟨⟨_,rfl⟩,.inl ⟨_,⟨_,jR yu HE (HC.all HE.once HZ),rfl⟩,F⟩⟩
  ·have B:=ze g;obtain⟨s,_⟩:=xH.1 g;have S:w1.1[W.1.size]?=Q (.mapIter (Q b) clock seen E):=(by rcases h with rfl|rfl<;>exact z);have I:w1.1[b]?=Q (.map es clock):=(by rcases h with rfl|rfl<;>exact q);have a9:b≠W.1.size:=(by omega);obtain⟨X,w⟩:∃X,setBlock w1 W.1.size (.mapIter (Q b) clock (seen.push e.born) clock)=X:=⟨_,rfl⟩;have o:X.1[W.1.size]?=Q (.mapIter (Q b) clock (seen.push e.born) clock):=(by rw[<-w];exact xL (zd S) _);have k:X.1[b]?=Q (.map es clock):=(by rw[<-w,xr a9];exact I);have N:wr.grownBy X (Q W.1.size):=by
    rw[<-w];rcases h with rfl|rfl
    ·exact xA _ _ _
    ·have:=xA wr.drew W.1.size (.mapIter (Q b) clock (seen.push e.born) clock);exact⟨this.os,this.tape,this.output,this.size,this.block⟩
   rw[w]at a;have i:=run_entry_at (P:=prog) X W.1.size b clock seen es clock e o k s HE.once;obtain⟨a7,hk,hv⟩:=Xc yu M s;have f:e.val=vO ((kH xJ L e).2):=hv;unfold vO at f;rw[f]at a i;have a3:J ((ps.map (kH xJ L)).map (fun p:Tok×Lse=>p.2)) X:=ud j _ wr X (Q W.1.size) F N (fun r e=>by cases e;exact⟨Y _,_,z,rfl⟩);obtain⟨y,u⟩:∃y,(kH xJ L e).2=y:=⟨_,rfl⟩;have a1:Hid ((fun p:Tok×Lse=>p.2) (kH xJ L e)=y):=u;rw[u]at a i;have K:=(A X.1.size X).alloc (Y _) (.cells (lZz y) 164);obtain⟨fn,tmps,assign,body,hy,hR⟩:=hY ((ps.map (kH xJ L)).map (fun p:Tok×Lse=>p.2)) y _ (xc (ud j) a3 K) (by rw[List.length_map,List.length_map];have:=hC.lt g;omega);have D:=ze o;have C:=ze k;have HX:=ze w;have a0:=ze z;clear c hC M o k w s S I hv hk N f z q g h a7 u K hJ G;gi_wp2;refine hR.mono ?_;rintro e3 W3 (⟨rfl,a2,t⟩|⟨rfl,H,t⟩)
   ·gi_wp2;have T:=t.high W.1.size _ (by omega) (fun⟨_,_,e⟩=>by cases e) ((Below.heap_alloc _ _ _ (zd D)).trans D);have a4:=t.walk b _ a8 ((Below.heap_alloc _ _ _ (zd C)).trans C) rfl;go_roundw;case rel=>exact⟨_,_,ps++[e],T,Y _,a4,(ud HC).step (ud B),by rw[List.map_append,List.map_append,List.map_singleton,List.map_singleton,ud a1];exact a2⟩
    case measure=>rw[xw T,xw (ud a0)];exact qT B
   ·gi_wp2;refine bodyPost_ret (results_none rfl _ _ _) rfl ?_;exact⟨⟨_,rfl⟩,.inr ⟨_,trivial,H⟩⟩
theorem zii(b:Nat)(w:Z):
  Calls prog 94 #[.map (Q b)] w fun e w'=>e=.returned (.func (.func 156) #[] #[(O w.1.size)])/\w'=w.alloc (.cells #[.map (Q b)] 168):=by
 go_in;go_wp2_with fail;go_ret;exact⟨rfl,rfl⟩
theorem zmQ(Bm b:Nat)(L:List (Tok×Lse))(w:Z)(e:¬ex b)(c:Bm<w.1.size)(o:w.cell? (U Bm 0)=Q (.map (Q b)))(a:xn xJ w b L):
  Z8 ex n prog 156 #[(O Bm)] (fun x:Lse=>#[.agg (lZz x)]) (fun xs=>∃ps:List (Tok×Lse),ps.Perm L/\xs=ps.map (fun p:Tok×Lse=>p.2)) L.length w:=
 fun m q l J h W g f j d k i=>znH l Bm b L e J h W f j d k ((g.cell (p:=(U Bm 0)) c).trans o) (a.later g) i
theorem zmM:∀args w,(callFunc 156 args).run prog w=.ok (.enter 156 args) w:=enters_of func156 (by kernel_rfl) rfl
attribute [local go_sem] Oper.semAt_some
theorem znI{α:Type}(c:α->Tsk)(k:Tsk->α)(l Bm b:Nat)(L:List (Jk×Tsk))(ad:∀p∈L,c (k p.2)=p.2)(ac:¬ex b)(J Jx:List α->Z->Prop)(W:Z)(af:m<=W.1.size)(hJ:OwnFrom W.1.size J)(N:OwnFrom W.1.size Jx)(hY:∀f x V,J f V->f.length<L.length->YieldAt Fence.wide 5 prog l #[.agg #[.iface (c x).jt (.agg #[I (c x).s.t,I (c x).s.se,I (c x).s.we]),I (c x).si,I (c x).tc,I (c x).rest]] V fun e V'=>(e=.returned (.bool true)/\J (f++[x]) V'/\KX ex n m V V')\/(e=.returned (.bool false)/\Jx (f++[x]) V'/\KX ex n m V V'))(hm:W.cell? (U Bm 0)=Q (.map (Q b)))(a2:xn qh W b L)(h0:J [] W):
  CallsIn Fence.wide 6 prog 158 #[.func (.yield l) #[] #[],(O Bm)] W fun e W'=>(∃v,e=.returned v)/\
   ((∃xs,(∃ps:List (Jk×Tsk),ps.Perm L/\xs=ps.map (fun p:Jk×Tsk=>k p.2))/\J xs W')\/(∃f,True/\Jx f W')):=by
 obtain⟨es,clock,hb,he⟩:=a2;have aa:=zd hb;have d:=run_range_map (P:=prog) W 169 _ _ b es clock underlying169 hb;have HE:=ze he;have o:=ze hJ;have ah:=he.count;refine callsIn_of_wp func158 rfl trivial ?_ rfl;simp only[ntmps158,sZz,Nat.reduceAdd,Nat.reduceSub];gi_wp2;gi_loopw [4] (fun _ wr=>∃(seen:Array Nat) (K:Nat) (ps:List MapEntry),wr.1[W.1.size]?=Q (.mapIter (Q b) clock seen K)/\clock<=K/\wr.1[b]?=Q (.map es clock)/\zee es seen ps/\J ((ps.map (kH qh L)).map (fun p:Jk×Tsk=>k p.2)) wr)
  (fun _ wr=>Zc es W.1.size wr)
 case atStart=>
  exact⟨#[],clock,[],zo _ _,Y _,(Below.heap_alloc _ _ _ aa).trans hb,⟨by simp,by simp,by simp⟩,xc (ud o) h0 ((A _ _).alloc (Y _) _)⟩
 case round=>
  obtain⟨seen,K,ps,E,ab,w,hC,M⟩:=hrel;have ag:=zd E;have HC:=ze hC;rcases run_next_at (P:=prog) wr 0 W.1.size b clock K seen es clock E w (ud HE).born ab with⟨hz,a⟩|⟨e,h,w1,i,a⟩
  ·have HZ:=ze hz;clear d hz hC he hJ N;gi_wp2;go_end0;exact⟨⟨_,rfl⟩,.inl ⟨_,⟨_,jR yZ HE (HC.all HE.once HZ),rfl⟩,M⟩⟩
  ·have F:=ze h;obtain⟨z,_⟩:=xH.1 h;have a3:w1.1[W.1.size]?=Q (.mapIter (Q b) clock seen K):=(by rcases i with rfl|rfl<;>exact E);have S:w1.1[b]?=Q (.map es clock):=(by rcases i with rfl|rfl<;>exact w);have ae:b≠W.1.size:=(by omega);obtain⟨X,D⟩:∃X,setBlock w1 W.1.size (.mapIter (Q b) clock (seen.push e.born) clock)=X:=⟨_,rfl⟩;have u:X.1[W.1.size]?=Q (.mapIter (Q b) clock (seen.push e.born) clock):=(by rw[<-D];exact xL (zd a3) _);have q:X.1[b]?=Q (.map es clock):=(by rw[<-D,xr ae];exact S);have a1:wr.grownBy X (Q W.1.size):=by
    rw[<-D];rcases i with rfl|rfl
    ·exact xA _ _ _
    ·have:=xA wr.drew W.1.size (.mapIter (Q b) clock (seen.push e.born) clock);exact⟨this.os,this.tape,this.output,this.size,this.block⟩
   rw[D]at a;have j:=run_entry_at (P:=prog) X W.1.size b clock seen es clock e u q z HE.once;obtain⟨a0,hk,hv⟩:=Xc yZ he z;have g:e.val=Qw (c (k (kH qh L e).2)):=(by rw[ad _ a0];exact hv);unfold Qw at g;rw[g]at a j;have a8:J ((ps.map (kH qh L)).map (fun p:Jk×Tsk=>k p.2)) X:=ud o _ wr X (Q W.1.size) M a1 (fun r e=>by cases e;exact⟨Y _,_,E,rfl⟩);obtain⟨y,C⟩:∃y,k (kH qh L e).2=y:=⟨_,rfl⟩;have a6:Hid ((fun p:Jk×Tsk=>k p.2) (kH qh L e)=y):=C;rw[C]at a j;have T:=(A X.1.size X).alloc (Y _) (.cells #[.iface (c y).jt (.agg #[I (c y).s.t,I (c y).s.se,I (c y).s.we]),I (c y).si,I (c y).tc,I (c y).rest] 177);obtain⟨fn,tmps,assign,body,hy,hR⟩:=hY ((ps.map (kH qh L)).map (fun p:Jk×Tsk=>k p.2)) y _ (xc (ud o) a8 T) (by rw[List.length_map,List.length_map];have:=hC.lt h;omega);have H:=ze u;have G:=ze q;have HX:=ze D;have a5:=ze E;clear d hC he u q D z a3 S hv hk a1 g E w h i a0 C T hJ N;gi_wp2;refine hR.mono ?_;rintro e3 W3 (⟨rfl,a7,B⟩|⟨rfl,R,B⟩)
   ·gi_wp2;have a4:=B.high W.1.size _ (by omega) (fun⟨_,_,e⟩=>by cases e) ((Below.heap_alloc _ _ _ (zd H)).trans H);have a9:=B.walk b _ ac ((Below.heap_alloc _ _ _ (zd G)).trans G) rfl;go_roundw;case rel=>exact⟨_,_,ps++[e],a4,Y _,a9,(ud HC).step (ud F),by rw[List.map_append,List.map_append,List.map_singleton,List.map_singleton,ud a6];exact a7⟩
    case measure=>rw[xw a4,xw (ud a5)];exact qT F
   ·gi_wp2;refine bodyPost_ret (results_none rfl _ _ _) rfl ?_;exact⟨⟨_,rfl⟩,.inr ⟨_,trivial,R⟩⟩
theorem zij(b:Nat)(w:Z):
  Calls prog 97 #[.map (Q b)] w fun e w'=>e=.returned (.func (.func 158) #[] #[(O w.1.size)])/\w'=w.alloc (.cells #[.map (Q b)] 169):=by
 go_in;go_wp2_with fail;go_ret;exact⟨rfl,rfl⟩
theorem zpp{α:Type}(a:α->Tsk)(i:Tsk->α)(Bm b:Nat)(L:List (Jk×Tsk))(h:∀p∈L,a (i p.2)=p.2)(w:Z)(f:¬ex b)(d:Bm<w.1.size)(u:w.cell? (U Bm 0)=Q (.map (Q b)))(c:xn qh w b L):
  Z8 ex n prog 158 #[(O Bm)] (fun x:α=>#[.agg #[.iface (a x).jt (.agg #[I (a x).s.t,I (a x).s.se,I (a x).s.we]),I (a x).si,I (a x).tc,I (a x).rest]]) (fun xs=>∃ps:List (Jk×Tsk),ps.Perm L/\xs=ps.map (fun p:Jk×Tsk=>i p.2)) L.length w:=
 fun m v l J k W j g q e r o=>znI a i l Bm b L h f J k W g q e r ((j.cell (p:=(U Bm 0)) d).trans u) (c.later j) o
theorem zmN:∀args w,(callFunc 158 args).run prog w=.ok (.enter 158 args) w:=enters_of func158 (by kernel_rfl) rfl
attribute [local go_sem] Oper.semAt_some
theorem zik(l Bm b:Nat)(L:List (Sg×SX))(J Jx:List SX->Z->Prop)(W:Z)(hJ:OwnFrom W.1.size J)(E:OwnFrom W.1.size Jx)(hY:∀d x V,J d V->d.length<L.length->YieldAt Fence.wide 5 prog l #[.agg (xZz x)] V fun e T=>(e=.returned (.bool true)/\J (d++[x]) T/\KeepsWalks V T)\/(e=.returned (.bool false)/\Jx (d++[x]) T/\KeepsWalks V T))(hm:W.cell? (U Bm 0)=Q (.map (Q b)))(M:xn yG W b L)(h0:J [] W):
  CallsIn Fence.wide 6 prog 150 #[.func (.yield l) #[] #[],(O Bm)] W fun e W'=>(∃v,e=.returned v)/\
   ((∃xs,(∃ps:List (Sg×SX),ps.Perm L/\xs=ps.map (fun p:Sg×SX=>p.2))/\J xs W')\/(∃d,True/\Jx d W')):=by
 obtain⟨es,clock,hb,I⟩:=M;have a5:=zd hb;have c:=run_range_map (P:=prog) W 152 _ _ b es clock underlying152 hb;have S:=ze I;have j:=ze hJ;have aa:=I.count;refine callsIn_of_wp func150 rfl trivial ?_ rfl;simp only[ntmps150,sZz,Nat.reduceAdd,Nat.reduceSub];gi_wp2;gi_loopw [4] (fun _ wr=>∃(seen:Array Nat) (C:Nat) (ps:List MapEntry),wr.1[W.1.size]?=Q (.mapIter (Q b) clock seen C)/\clock<=C/\wr.1[b]?=Q (.map es clock)/\zee es seen ps/\J ((ps.map (kH yG L)).map (fun p:Sg×SX=>p.2)) wr)
  (fun _ wr=>Zc es W.1.size wr)
 case atStart=>
  exact⟨#[],clock,[],zo _ _,Y _,(Below.heap_alloc _ _ _ a5).trans hb,⟨by simp,by simp,by simp⟩,xc (ud j) h0 ((A _ _).alloc (Y _) _)⟩
 case round=>
  obtain⟨seen,C,ps,u,a6,n,hC,D⟩:=hrel;have a9:=zd u;have HC:=ze hC;rcases run_next_at (P:=prog) wr 0 W.1.size b clock C seen es clock u n (ud S).born a6 with⟨hz,a⟩|⟨e,g,w1,h,a⟩
  ·have HZ:=ze hz;clear c hz hC I hJ E;gi_wp2;go_end0;exact⟨⟨_,rfl⟩,.inl ⟨_,⟨_,jR Xz S (HC.all S.once HZ),rfl⟩,D⟩⟩
  ·have w:=ze g;obtain⟨o,_⟩:=xH.1 g;have N:w1.1[W.1.size]?=Q (.mapIter (Q b) clock seen C):=(by rcases h with rfl|rfl<;>exact u);have G:w1.1[b]?=Q (.map es clock):=(by rcases h with rfl|rfl<;>exact n);have a8:b≠W.1.size:=(by omega);obtain⟨X,t⟩:∃X,setBlock w1 W.1.size (.mapIter (Q b) clock (seen.push e.born) clock)=X:=⟨_,rfl⟩;have m:X.1[W.1.size]?=Q (.mapIter (Q b) clock (seen.push e.born) clock):=(by rw[<-t];exact xL (zd N) _);have k:X.1[b]?=Q (.map es clock):=(by rw[<-t,xr a8];exact G);have K:wr.grownBy X (Q W.1.size):=by
    rw[<-t];rcases h with rfl|rfl
    ·exact xA _ _ _
    ·have:=xA wr.drew W.1.size (.mapIter (Q b) clock (seen.push e.born) clock);exact⟨this.os,this.tape,this.output,this.size,this.block⟩
   rw[t]at a;have i:=run_entry_at (P:=prog) X W.1.size b clock seen es clock e m k o S.once;obtain⟨a7,hk,hv⟩:=Xc Xz I o;have f:e.val=vx ((kH yG L e).2):=hv;unfold vx at f;rw[f]at a i;have a3:J ((ps.map (kH yG L)).map (fun p:Sg×SX=>p.2)) X:=ud j _ wr X (Q W.1.size) D K (fun r e=>by cases e;exact⟨Y _,_,u,rfl⟩);obtain⟨y,s⟩:∃y,(kH yG L e).2=y:=⟨_,rfl⟩;have a1:Hid ((fun p:Sg×SX=>p.2) (kH yG L e)=y):=s;rw[s]at a i;have H:=(A X.1.size X).alloc (Y _) (.cells (xZz y) 148);obtain⟨fn,tmps,assign,body,hy,hR⟩:=hY ((ps.map (kH yG L)).map (fun p:Sg×SX=>p.2)) y _ (xc (ud j) a3 H) (by rw[List.length_map,List.length_map];have:=hC.lt g;omega);have B:=ze m;have z:=ze k;have HX:=ze t;have a0:=ze u;clear c hC I m k t o N G hv hk K f u n g h a7 s H hJ E;gi_wp2;refine hR.mono ?_;rintro e3 W3 (⟨rfl,a2,q⟩|⟨rfl,F,q⟩)
   ·gi_wp2;have R:=q.same W.1.size _ ((Below.heap_alloc _ _ _ (zd B)).trans B) rfl;have a4:=q.same b _ ((Below.heap_alloc _ _ _ (zd z)).trans z) rfl;go_roundw;case rel=>exact⟨_,_,ps++[e],R,Y _,a4,(ud HC).step (ud w),by rw[List.map_append,List.map_append,List.map_singleton,List.map_singleton,ud a1];exact a2⟩
    case measure=>rw[xw R,xw (ud a0)];exact qT w
   ·gi_wp2;refine bodyPost_ret (results_none rfl _ _ _) rfl ?_;exact⟨⟨_,rfl⟩,.inr ⟨_,trivial,F⟩⟩
theorem zlv(Bm b:Nat)(L:LV)(w:Z)(c:Bm<w.1.size)(q:w.cell? (U Bm 0)=Q (.map (Q b)))(a:xn yG w b (vZ L)):
  Yy Fence.wide 6 prog 150 #[(O Bm)] (fun x:SX=>#[.agg (xZz x)]) KeepsWalks (fun xs=>xs.Perm L) (fun _=>True) L.length 0 w:=
 fun l J i W g _ n d o j=>(zik l Bm b (vZ L) J i W n d (by rw[KS];exact o) ((g.cell (p:=(U Bm 0)) c).trans q) (a.later g) j).mono (by
  rintro e W' ⟨f,⟨xs,⟨ps,k,rfl⟩,m⟩|h⟩
  ·exact⟨f,.inl ⟨_,KT k,m⟩⟩
  ·exact⟨f,.inr h⟩)
