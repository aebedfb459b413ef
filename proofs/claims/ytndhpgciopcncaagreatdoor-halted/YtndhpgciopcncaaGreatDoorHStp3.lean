import Derived.Test.YtndhpgciopcncaaGreatDoorHSmlI
import Derived.StillTactics
import Derived.Test.YtndhpgciopcncaaGreatDoorHRdr6
open Option renaming some → J
open Go renaming World → E
open Go.Value (int)
open Go.IntKind (i32)
set_option linter.unusedVariables false
namespace Go.Proofs.YtndhpgciopcncaaGreatDoor
open Go.RowKit Go.Maps Go.Shelf
variable {txt:ByteArray} {c:Cf} {S:DS} {ep:Int} {dr:List FS} {nh:List Nm} {m m':MS} {P:MS->Prop} {N cap e g i k:Nat} {f:Nat->Prop} {s s' t:Shp} {v z:Value} {X w w' w5:E}
theorem zgH(X:E)(g i:Nat)(v:Value):(X.setCell (U g i) v).drew.1.size=X.1.size:=by
 have h:(X.setCell (U g i) v).1.size=X.1.size:=by simp[World.setCell]
 exact h
theorem zcZ(h:¬k=g):(X.setCell (U g i) v).drew.1[k]?=X.1[k]?:=zI (w:=X) h
theorem zhE{j:Nat}(h:¬k=g):(X.setCell (U g i) v).drew.cell? (U k j)=X.cell? (U k j):=World.cell?_of_block (a:=(U k j)) (zcZ h)
theorem zhC(l:List UInt8)(j:Nat):(⟨l.toArray⟩:ByteArray).data[j]! =(l[j]?).getD default:=by
 show l.toArray[j]! =_;rw[Array.getElem!_eq_getD,Array.getD_eq_getD_getElem?];simp
theorem zkN(b:List Rw)(q:List UInt8)(x:(10:UInt8)∉q):(⟨((b.flatMap kw)++q).toArray⟩:ByteArray).extract 0 (JC ⟨((b.flatMap kw)++q).toArray⟩)=xb b:=by
 have c:(⟨((b.flatMap kw)++q).toArray⟩:ByteArray).size=(b.flatMap kw).length+q.length:=by show((b.flatMap kw)++q).toArray.size=_;simp
 have f:∀j,(b.flatMap kw).length<=j->j<(b.flatMap kw).length+q.length->(((⟨((b.flatMap kw)++q).toArray⟩:ByteArray).data[j]!).toNat:Int)≠10:=fun j t z e=>by
  rw[zhC,List.getElem?_append_right t]at e;have p:j-(b.flatMap kw).length<q.length:=by omega
  rw[List.getElem?_eq_getElem p]at e;have u:q[j-(b.flatMap kw).length]=10:=by
   apply UInt8.toNat_inj.1;have:((q[j-(b.flatMap kw).length]).toNat:Int)=10:=e;show(q[j-(b.flatMap kw).length]).toNat=10;omega
  exact x (u▸List.getElem_mem p)
 have k:JC ⟨((b.flatMap kw)++q).toArray⟩=(b.flatMap kw).length:=by
  unfold JC Lib.lastIndexByte;by_cases o:b=[]
  ·subst o;rcases Lib.lastIdx_spec (⟨((([]:List Rw).flatMap kw)++q).toArray⟩:ByteArray) 10 (⟨((([]:List Rw).flatMap kw)++q).toArray⟩:ByteArray).size with⟨h,-⟩|⟨i,m,h,n,-⟩
   ·rw[h];rfl
   ·rw[c]at m;exact absurd n (f i (Nat.zero_le _) m)
  ·obtain⟨l,r,rfl⟩:∃l r,b=l++[r]:=⟨_,_,(List.dropLast_concat_getLast o).symm⟩;obtain⟨a,w⟩:∃a:List UInt8,(l++[r]).flatMap kw=a++[10]:=⟨l.flatMap kw++Zd r.1 r.2,by simp[kw]⟩;rw[w]at c f ⊢;have d:(a++[(10:UInt8)]).length=a.length+1:=(by simp);have g:(((⟨((a++[10])++q).toArray⟩:ByteArray).data[a.length]!).toNat:Int)=10:=(by rw[zhC,List.getElem?_append_left (by rw[d];omega)];simp);rcases Lib.lastIdx_spec (⟨((a++[10])++q).toArray⟩:ByteArray) 10 (⟨((a++[10])++q).toArray⟩:ByteArray).size with⟨-,h⟩|⟨i,m,h,n,v⟩
   ·exact absurd g (h a.length (by rw[c,d];omega))
   ·rw[h,d];rw[c,d]at m;by_cases y:i=a.length
    ·omega
    ·by_cases s:i<a.length
     ·exact absurd g (v a.length s (by rw[c,d];omega))
     ·exact absurd n (f i (by rw[d];omega) (by rw[d];omega))
 rw[k];apply ByteArray.ext;rw[ByteArray.data_extract];unfold xb;show((b.flatMap kw)++q).toArray.extract 0 (b.flatMap kw).length=(b.flatMap kw).toArray;simp
theorem zjW(a:List Rw)(now:Int)(xs:List SX)(n:Nat)(hn:n<=(xm now xs++nl).size):∃b,(b=a\/b=a++[(now,xs)])/\(xb a++(xm now xs++nl).extract 0 n).extract 0 (JC (xb a++(xm now xs++nl).extract 0 n))=xb b:=by
 have g:(xm now xs++nl).size=(Zd now xs).length+1:=by rw[kQ,yZ]
 have c:xb a++(xm now xs++nl).extract 0 n=⟨((a.flatMap kw)++(kw (now,xs)).take n).toArray⟩:=by
  apply ByteArray.ext;rw[ByteArray.data_append,ByteArray.data_extract,ByteArray.data_append];show(a.flatMap kw).toArray++((Zd now xs).toArray++#[10]).extract 0 n=_;simp[kw]
 by_cases h:n=(Zd now xs).length+1
 ·refine⟨a++[(now,xs)],.inr rfl,?_⟩;have e:xb a++(xm now xs++nl).extract 0 n=xb (a++[(now,xs)]):=by
   rw[c];unfold xb;have:(kw (now,xs)).take n=kw (now,xs):=List.take_of_length_le (by unfold kw;simp;omega);rw[this];simp
  rw[e];exact JD _
 ·refine⟨a,.inl rfl,?_⟩;rw[c];refine zkN a _ (fun d=>?_);have f:(kw (now,xs)).take n=(Zd now xs).take n:=by
   unfold kw;dsimp only;rw[List.take_append_of_le_length (by omega)]
  rw[f]at d;exact zjh now xs (List.mem_of_mem_take d)
theorem ziL{t:ByteArray}{d:List Rw}(c:zdU N dr)(j:e<=1000000000)(i:N<=300000000000)(a:t.size<=400000000000)(h:t.extract 0 (JC t)=xb d):zpy (crS e t dr) (e+1) (xb d):=by
 obtain⟨b,f,g⟩:=znA e t dr;refine⟨f,by rw[g];rfl,by rw[b,zlN];exact h,fun rec=>by rw[b];exact zoJ c rec,znj (by omega) a (by omega) (by omega) c⟩
theorem KI(c:Cf)(m:MS):∃TL',xB c m TL':=by
 refine⟨_,⟨((zn m.L).filter (fun k=>(stL m.L k).st==2)).flatMap (fun k=>(yw c k).map (fun x=>(x,()))),(zn m.L).filter (fun s=>yU c (((zn m.L).filter (fun k=>(stL m.L k).st==2)).flatMap (fun k=>(yw c k).map (fun x=>(x,())))) m.L m.now s),(zn m.L).filter (fun s=>yT c m.L m.now s),fun x=>?_,fun s=>by rw[List.mem_filter],fun s=>by rw[List.mem_filter],rfl⟩⟩;unfold zk;constructor
 ·intro h;obtain⟨p,e,rfl⟩:=List.mem_map.1 h;obtain⟨k,d,a⟩:=List.mem_flatMap.1 e;obtain⟨y,f,rfl⟩:=List.mem_map.1 a;obtain⟨b,k2⟩:=List.mem_filter.1 d;exact⟨k,b,by simpa using k2,f⟩
 ·rintro⟨k,b,k2,a⟩;exact List.mem_map.2 ⟨(x,()),List.mem_flatMap.2 ⟨k,List.mem_filter.2 ⟨b,by simpa using k2⟩,List.mem_map.2 ⟨x,a,rfl⟩⟩,rfl⟩
theorem znX(f:MOk c ep m){n':Int}(hn:m.now<=n'):∃d a,YQ n' m.TL m.QL d a/\∀p∈a,n'<p.2.til:=by
 have h:∀(k:Nat) (T1:List (Jk×Tsk)) (Q1:List (Tok×Lse)),YQ n' m.TL m.QL T1 Q1->Q1.length<=k->∃d a,YQ n' m.TL m.QL d a/\∀p∈a,n'<p.2.til:=by
  intro k;induction k with
  |zero=>intro T1 Q1 e q;exact⟨T1,Q1,e,fun p b=>by have l:Q1=[]:=List.eq_nil_of_length_eq_zero (by omega);rw[l]at b;cases b⟩
  |succ k s=>
   intro T1 Q1 e q;by_cases j:∀p∈Q1,n'<p.2.til
   ·exact⟨T1,Q1,e,j⟩
   ·obtain⟨p,b,w⟩:∃p∈Q1,¬n'<p.2.til:=Classical.byContradiction fun o=>j (fun p b=>Classical.byContradiction fun n=>o ⟨p,b,n⟩);obtain⟨-,n1,u,-,-,-,r,-⟩:=K8 (ep:=ep) (c:=c) (L:=m.L) (num:=m.num) hn f.td f.nt f.leas f.nq f.jobs e;obtain⟨x,i,-⟩:=r p b;refine s _ _ (.step (t:=p.1) (g:=p.2) (x:=x) e (xt u b) (by omega) i) ?_;have v:(zT Q1 p.1).length<Q1.length:=by
     unfold zT;refine List.length_filter_lt_length_iff_exists.2 ⟨p,b,by simp⟩
    omega
 exact h _ _ _ .nil (Nat.le_refl _)
def Nev(S:DS):Prop:=S.left= -1/\S.down=false
structure UpM(c:Cf)(m:MS)(q:JM)(txt:ByteArray)(ns:List Nm):Prop where
 up:q.dn=false
 dsk:UpS 2000000000 1 txt q.S
 st:0<=q.st/\q.st<=100000000000
 sz:txt.size<=250000000000
 tx:q.S.down=false->(txt.size:Int)<=2*q.st+4096
 hist:ki c 1 m ns txt
def xh(w:E)(i:Ids)(c:Cf)(m:MS)(S:DS):Prop:=∃q txt ns,zO w i c 1 m q/\UpM c m q txt ns/\q.S=S
def vO(w:E)(i:Ids)(c:Cf)(m:MS)(P:MS->Prop):Prop:=∃q txt ns lo dr l,zO w i c 1 m q/\(q.dn=true/\0<=q.st/\q.st<=100000000000)/\q.S=shS 1 txt lo dr l true/\zdU 2000000000 dr/\(-1<=l/\l<=1000)/\txt.size<=250000000000/\ki c 1 m ns txt/\(lo=noB\/∃m' ns' xs,lo=xm m'.now xs++nl/\lo.size<=200000/\ki c 1 m' ns' (txt++lo)/\P m')
theorem vO.mono{i:Ids}{f:MS->Prop}(h:vO w i c m P)(t:∀m',P m'->f m'):vO w i c m f:=by
 obtain⟨q,txt,ns,lo,dr,l,g,j,k,n,o,p,r,s⟩:=h;refine⟨q,txt,ns,lo,dr,l,g,j,k,n,o,p,r,s.imp id ?_⟩;rintro⟨m',ns',xs,a,b,d,e⟩;exact⟨m',ns',xs,a,b,d,t m' e⟩
theorem zoH(h:UpS N e txt S):yh S xY=txt:=by
 cases h with
 |live l a=>unfold yh shS;rw[kJ,jg];rfl
 |down l a dr b=>unfold yh shS;rw[kJ,jg];rfl
section
variable {c:Cf} {m m':MS} {q q':JM} {txt:ByteArray} {ns ns':List Nm} {xs:List SX}
theorem UpM.dok(h:UpM c m q txt ns):DOk q.S 400000000000:=h.dsk.dok (by omega) (by have:=h.sz;omega) (by omega) (by omega)
theorem UpM.sok(h:UpM c m q txt ns)(a:c.ok):SOk c 1 m ns.length:=h.hist.sok a
theorem UpM.lens(h:UpM c m q txt ns)(a:c.ok):m.L.length<=400/\m.Gl.length<=2000020:=⟨(h.hist.sok a).ok.seg.len400 a,(h.hist.sok a).gl a⟩
theorem zcc(hn:0<=m.now/\m.now<=100000)(a:∀x∈xs,okX x)(b:xs.length<=1000):(xm m.now xs++nl).size<=200000:=by
 have:=kE (now:=m.now) (xs:=xs) (by unfold xz;omega) a;rw[kQ,yZ];omega
theorem UpM.after(h:UpM c m q txt ns)(n:c.ok)(D:XK c 1 m ns m' ns')(l:∀x∈xs,okX x)(s:∀x∈xs,okN x)(r:(xs.map (·.1)).Nodup)(f:xs.length<=1000)(v:m'.L=(m.took m'.now xs).L)(u:m'.Gl=(m.took m'.now xs).Gl)(j:yR q.S (xm m'.now xs)=true)(C:YO (m.took m'.now xs) q q' m'.now xs):(∃g,UpM c m' q' g ns')/\(Nev q.S->Nev q'.S):=by
 have d:ki c 1 m' ns' (txt++(xm m'.now xs++nl)):=.laid m ns txt m' ns' xs h.hist D l v u s r f;have i:=d.sok n;obtain⟨t,z,A⟩:=(zmV h.dsk (xm m'.now xs)).1 j;have F:=zcc i.ok.now l f;have I:=h.sz;have H:=h.st;have K:(txt++(xm m'.now xs++nl)).size=txt.size+(xm m'.now xs++nl).size:=ByteArray.size_append;have o:q.S.down=false:=by
  cases b:q.S.down with
  |false=>rfl
  |true=>
   have B:zj q.S=true:=(by unfold zj;rw[b];rfl);unfold yR at j;rw[B]at j;cases j
 have M:=h.tx o;rcases C with⟨b,rfl⟩|⟨b,ys,k,rfl⟩
 ·refine⟨⟨_,h.up,t,h.st,by omega,fun _=>?_,d⟩,fun p=>⟨A p.1,z⟩⟩;show((txt++(xm m'.now xs++nl)).size:Int)<=2*q.st+4096;unfold Vn at b;rw[zoH t]at b;have:=of_decide_eq_false b;omega
 ·rw[<-v,<-u]at k;have y:=i.ok.now;have w:=kE (now:=m'.now) (xs:=ys) (by unfold xz;omega) (fun x l=>d.okA x (k.mem_iff.1 l));have N:=i.ok.seg.len400 n;have O:=i.gl n;have P:ys.length=m'.L.length+m'.Gl.length:=by rw[k.length_eq];unfold yJ;rw[List.length_append,List.length_map]
  have G:(xm m'.now ys).size<=1000000000:=by rw[yZ];omega
  obtain⟨r1,r2,r3⟩:=zqh (rec:=xm m'.now ys) t z (by rw[kQ];omega);have a:(zpY (jT q (xm m'.now xs)) (xm m'.now ys)).st=(xm m'.now ys).size+1:=by
   show Vu (Qa q.S (xm m'.now xs)) (xm m'.now ys) q.st=_;unfold Vu;rw[r1];rfl
  refine⟨?_,fun p=>(r3 (A p.1))⟩;rcases r2 with⟨r2,r4⟩|⟨r2,r4⟩
  ·exact⟨_,h.up,r2,by rw[a];omega,by rw[kQ];omega,fun _=>by rw[a,kQ];omega,ki.anew m' ns' _ ys d k⟩
  ·exact⟨_,h.up,r2,by rw[a];omega,by omega,fun e=>(by rw[show(zpY (jT q (xm m'.now xs)) (xm m'.now ys)).S.down=true from r4]at e;cases e),d⟩
theorem UpM.lost{i:Ids}(h:UpM c m q txt ns)(v:c.ok)(u:XK c 1 m ns m' ns')(g:∀x∈xs,okX x)(e:∀x∈xs,okN x)(d:(xs.map (·.1)).Nodup)(b:xs.length<=1000)(r:m'.L=(m.took m'.now xs).L)(p:m'.Gl=(m.took m'.now xs).Gl)(w:yR q.S (xm m'.now xs)=false)(s:zO w' i c 1 m {jT q (xm m'.now xs)with dn:=true})(t:P m'):vO w' i c m P/\¬Nev q.S:=by
 have f:ki c 1 m' ns' (txt++(xm m'.now xs++nl)):=.laid m ns txt m' ns' xs h.hist u g r p e d b;obtain⟨lo,dr,l,a,j,k,n,o⟩:=(zmV h.dsk (xm m'.now xs)).2 w;refine⟨⟨_,txt,ns,lo,dr,l,s,⟨rfl,h.st⟩,n,j,k,h.sz,h.hist,?_⟩,o⟩;rcases a with a|a
 ·exact .inl a
 ·exact .inr ⟨m',ns',xs,a,by rw[a];exact zcc (f.sok v).ok.now g b,by rw[a];exact f,t⟩
end
section
variable {w w':E} {i:Ids} {c:Cf} {m:MS} {S:DS}
theorem xh.own(h:xh w i c m S):xK false w i c 1 m:=by
 obtain⟨q,txt,ns,h,a,-⟩:=h;have:=h.own;rw[a.up]at this;exact this
theorem xh.lt(h:xh w i c m S):i.x<w.1.size:=h.own.lt
theorem xh.dlt(h:xh w i c m S):i.d<w.1.size:=by obtain⟨q,txt,ns,h,-⟩:=h;exact h.dlt
theorem xh.kept(h:xh w i c m S)(a:zi f w w')(hn:∀k,zt w i k->¬f k)(b:¬f vR):xh w' i c m S:=by
 obtain⟨q,txt,ns,h,d⟩:=h;exact⟨q,txt,ns,h.kept a hn b,d⟩
theorem xh.later(h:xh w i c m S)(b:Below w.1.size w w'):xh w' i c m S:=h.kept (f:=fun _=>False) (zi.of_below b) (fun _ _ a=>a) (fun a=>a)
theorem xh.foot_lt(h:xh w i c m S):∀k,zt w i k->k<w.1.size:=by obtain⟨q,txt,ns,h,-⟩:=h;exact h.foot_lt
theorem xh.below(h:xh w i c m S)(a:Below w.1.size w w'):Kx i w w':=Kx.below a h.dlt
theorem xh.tag(h:xh w i c m S){cs:Array Value}{t:TypeId}{fr:Nat×Nat}(a:w.1[k]?=J (.cells cs t fr))(b:zlv t=false):¬zt w i k:=by
 obtain⟨q,txt,ns,h,-⟩:=h;exact h.tagQ a b
theorem xh.sok(h:xh w i c m S)(a:c.ok):∃k,SOk c 1 m k:=by
 obtain⟨q,txt,ns,h,b,-⟩:=h;exact⟨_,b.sok a⟩
theorem xh.quiet(h:xh w i c m S)(l:∀ns,XK c 1 m ns m' ns)(hn:m'.now=m.now)(j:m'.L=m.L)(g:m'.Gl=m.Gl)(o:xK false w' i c 1 m')(n:zi (Zz i) w w'):xh w' i c m' S/\Kx i w w':=by
 obtain⟨q,txt,ns,h,a,k⟩:=h;have b:xK q.dn w' i c 1 m':=by rw[a.up];exact o
 obtain⟨d,f⟩:=h.put b n (fun _ e=>e);exact⟨⟨q,txt,ns,d,⟨a.up,a.dsk,a.st,a.sz,a.tx,.quiet m ns txt m' ns a.hist (l ns) hn j g⟩,k⟩,f⟩
theorem zpV(h:xh w i c m S)(j:c.ok)(N:c.fits)(n:Int)(hn:1<=n/\n<=1000)(d:m.now+n<=100000):
  Calls Tryz.prog 26 #[(O i.x),I n] w fun e w'=>Kx i w w'/\((e=.returned (I 0)/\∃b a TL' S',xh w' i c {m with now:=m.now+n,TL:=TL',QL:=a} S'/\(Nev S->Nev S')/\YQ (m.now+n) m.TL m.QL b a/\(∀p∈a,m.now+n<p.2.til)/\xB c {m with now:=m.now+n,TL:=b,QL:=a} TL')\/(e=.returned (I 13)/\vO w' i c m (fun m'=>XL c 1 (zcu n) m m')/\¬Nev S)):=by
 obtain⟨q,txt,ns,D,g,rfl⟩:=h;have f:=g.sok j;obtain⟨G,H⟩:=g.lens j;refine(ziG D j n hn ⟨f.ok.now.1,d⟩ (f.ok.binv j) f.ok.seg.inr (by omega) (fun T Q o=>by
  have z:=(K8 (ep:=1) (c:=c) (L:=m.L) (num:=m.num) (show m.now<=m.now+n by omega) f.ok.td f.ok.nt f.ok.leas f.ok.nq f.ok.jobs o);have A:=jW (zk T) (zk m.TL) z.2.1 (fun x K=>(z.2.2.2.2.2.2.2 x).1 K);have M:=f.ok.t800 j;simp[zk]at A;omega) g.hist.okA (by omega) _ (by omega) g.dok ⟨g.st.1,by have:=g.st.2;omega⟩).mono ?_
 rintro e w' ⟨F,C⟩;refine⟨C,?_⟩;rcases F with⟨t,o,u⟩|⟨t,o,q',b,a,TL',B,u,k,r,l⟩
 ·right;obtain⟨b,a,k,r⟩:=znX f.ok (n':=m.now+n) (by omega);obtain⟨TL',l⟩:=KI c {m with now:=m.now+n,TL:=b,QL:=a};exact⟨o,g.lost j (xs:=[]) (m':={m with now:=m.now+n,TL:=TL',QL:=a}) (.ticked m ns n b TL' a hn.1 d k r l) (by simp) (by simp) (by simp) (by simp) rfl rfl t u (zaN hn d k r l)⟩
 ·left;obtain⟨⟨s,y⟩,v⟩:=g.after j (xs:=[]) (m':={m with now:=m.now+n,TL:=TL',QL:=a}) (.ticked m ns n b TL' a hn.1 d k r l) (by simp) (by simp) (by simp) (by simp) rfl rfl t B;exact⟨o,b,a,TL',_,⟨q',s,ns,u,y,rfl⟩,v,k,r,l⟩
end
section
variable {w:E} {i:Ids} {c:Cf} {m:MS} {S:DS}
def zpw(w':E)(i:Ids)(c:Cf)(m:MS)(S:DS)(P:MS->Prop)(e:Ending):Prop:=(e=.returned (I 0)/\∃m' S',xh w' i c m' S'/\(Nev S->Nev S')/\P m')\/(e=.returned (I 13)/\vO w' i c m P/\¬Nev S)
theorem zqM(h:xh w i c m S)(f:c.ok)(sr tm val:Int)(b:0<=sr/\sr<4)(j:0<=tm/\tm<=m.now)(g:m.now-c.la<=tm)(d: -2147483648<=val/\val<=2147483647)(a:zV m.L+(1+2*yn c m.L ⟨sr,tm,val⟩ c.n)<=c.qu):
  Calls Tryz.prog 27 #[(O i.x),I sr,I tm,int i32 val] w fun e w'=>Kx i w w'/\zpw w' i c m S (fun m'=>m'={m with L:=yv c m.L ⟨sr,tm,val⟩}) e:=by
 obtain⟨q,txt,ns,Q,l,rfl⟩:=h;have p:=l.sok f;obtain⟨R,T⟩:=l.lens f;have y:=p.ok.now;have H:=p.ok.seg.u0 f;have v:∀k:Nat,k<c.n->zE m.Gl (qO c sr tm k)=none:=fun k u=>p.ok.not_gone f (x:=⟨sr,tm,val⟩) g (t:=(k:Int)) (by omega) (by omega);obtain⟨o,r⟩:=zbH f p.ok l.hist.okA b ⟨j.1,by omega⟩ d;have F:=Jf (c:=c) (Gl:=m.Gl) (L:=m.L) (x:=⟨sr,tm,val⟩) p.ok.seg.st v;have C:m.took m.now (qX c m.Gl m.L ⟨sr,tm,val⟩)={m with L:=yv c m.L ⟨sr,tm,val⟩}:=by unfold MS.took;rw[F]
 have K:({m with L:=yv c m.L ⟨sr,tm,val⟩}:MS).L=(m.took m.now (qX c m.Gl m.L ⟨sr,tm,val⟩)).L:=by rw[C]
 have s:({m with L:=yv c m.L ⟨sr,tm,val⟩}:MS).Gl=(m.took m.now (qX c m.Gl m.L ⟨sr,tm,val⟩)).Gl:=by rw[C]
 refine(zpS Q f sr tm val b j g y.2 d ⟨H.1,by omega⟩ p.ok.seg.st v a (p.ok.small f) o (vY _ _ _ l.hist.okA o) r (by omega) (by omega) _ (by omega) l.dok ⟨l.st.1,by have:=l.st.2;omega⟩).mono ?_;rintro e w' ⟨M,P⟩;refine⟨P,?_⟩;cases u:yR q.S (xm m.now (qX c m.Gl m.L ⟨sr,tm,val⟩))with
 |false=>
  obtain⟨B,A⟩:=jL M u
  exact .inr ⟨B,l.lost f (m':={m with L:=yv c m.L ⟨sr,tm,val⟩}) (.added m ns ⟨sr,tm,val⟩ b j g d a) o (Ky c m.Gl m.L _) (zaa c m.Gl m.L _) r K s u A rfl⟩
 |true=>
  obtain⟨B,q',N,A⟩:=kA M u
  obtain⟨⟨z,G⟩,D⟩:=l.after f (m':={m with L:=yv c m.L ⟨sr,tm,val⟩}) (.added m ns ⟨sr,tm,val⟩ b j g d a) o (Ky c m.Gl m.L _) (zaa c m.Gl m.L _) r K s u N
  rw[C]at A
  exact .inl ⟨B,_,_,⟨q',z,_,A,G,rfl⟩,D,rfl⟩
inductive XN (c:Cf) (m:MS) (t:Tok) (g:Lse):MS->Prop
 |roll (s:Sg) (se ti rest:Int) (k:Nat) (TL':List (Jk×Tsk)) (hx:zE m.TL g.job=J ⟨true,s,se,ti,rest⟩) (hk:s.t=k) (hp:xB c {m with L:=qS m.L s ⟨3,xx (xe c m.L s.sr s.wn k)⟩,Gl:=m.Gl,TL:=zT m.TL g.job,QL:=zT m.QL t} TL'):XN c m t g {m with L:=qS m.L s ⟨3,xx (xe c m.L s.sr s.wn k)⟩,Gl:=m.Gl,TL:=TL',QL:=zT m.QL t}
 |recl (s:Sg) (se ti rest:Int) (TL':List (Jk×Tsk)) (hx:zE m.TL g.job=J ⟨false,s,se,ti,rest⟩) (hp:xB c {m with L:=zT m.L s,Gl:=qj m.Gl s (),TL:=zT m.TL g.job,QL:=zT m.QL t} TL'):XN c m t g {m with L:=zT m.L s,Gl:=qj m.Gl s (),TL:=TL',QL:=zT m.QL t}
theorem XN.act{t:Tok}{g:Lse}(h:XN c m t g m')(d:zE m.QL t=J g)(ns:List Nm):XK c 1 m ns m' ns:=by
 cases h with
 |roll s se ti rest k TL' b e a=>exact .rolled m ns t g s se ti rest k TL' d b e a
 |recl s se ti rest TL' b a=>exact .reclaimed m ns t g s se ti rest TL' d b a
theorem XN.actD{n kd:Int}{g:Lse}(h:XN c m ⟨1,n⟩ g m')(e:zE m.QL ⟨1,n⟩=J g)(a:¬kd=5):XL c 1 (zgO kd 1 n) m m':=by
 cases h with
 |roll s se ti rest k TL' d f b=>exact zhh a e d f b
 |recl s se ti rest TL' d b=>exact zhg a e d b
theorem znL(h:xh w i c m S)(o:c.ok)(t:Tok)(ht:t.wf){g:Lse}(H:zE m.QL t=J g):
  Calls Tryz.prog 20 #[(O i.x),.agg #[I t.ep,I t.num]] w fun e w'=>Kx i w w'/\zpw w' i c m S (XN c m t g) e:=by
 obtain⟨q,txt,ns,U,d,rfl⟩:=h;have B:=d.sok o;obtain⟨a3,a4⟩:=d.lens o;have A:=B.ok.now;have a5:=B.ok.t800 o;have a0:=zA H;obtain⟨x,l,-⟩:=(B.ok.leas _ a0).job;have a2:=zA l;have u:=B.ok.td _ a2;have P:=B.ok.mem_inR u.mem;have hj:g.job.wf:=by rw[show g.job=x.key from u.key];refine⟨?_,P.1⟩;unfold xz Tsk.key Tsk.kd;dsimp only;split<;>omega
 have C:∀v,(∀p∈qS m.L x.s v,inR c p.1)/\(qS m.L x.s v).length<=2000:=fun v=>⟨fun p R=>by
  rcases qv R with rfl|⟨R,-⟩
  ·exact P
  ·exact B.ok.seg.inr p R,by have:=zeF m.L x.s v;omega⟩
 have z:(∀p∈zT m.L x.s,inR c p.1)/\(zT m.L x.s).length<=2000:=⟨fun p R=>B.ok.seg.inr p (zS.1 R).1,by
  have:(zT m.L x.s).length<=m.L.length:=by unfold zT;exact List.length_filter_le _ _
  omega⟩
 obtain⟨rl,s,se,ti,rest⟩:=x;dsimp only at*;cases rl with
 |true=>
  have a1:(stL m.L s).st=2:=u.roll rfl;have a6:0<=s.t:=by
   by_cases h9:s.t= -1
   ·have h8:=(B.ok.seg.raw _ (zW u.mem) h9).1;dsimp only at h8;rw[h8]at a1;omega
   ·have:=P.2.1;omega
  obtain⟨k,Q⟩:∃k:Nat,s.t=k:=⟨s.t.toNat,by omega⟩;have b:∀y∈([(s,⟨3,xx (xe c m.L s.sr s.wn k)⟩)]:List SX),okX y:=fun y D=>by
   rw[List.mem_singleton]at D;subst D;exact ziK d.hist.okA s P.1 _ _ _
  have K:m.took m.now [(s,⟨3,xx (xe c m.L s.sr s.wn k)⟩)]={m with L:=qS m.L s ⟨3,xx (xe c m.L s.sr s.wn k)⟩,Gl:=m.Gl}:=by unfold MS.took qr;simp only[List.foldl_cons,List.foldl_nil];unfold jn;rfl
  have a:(m.took m.now [(s,⟨3,xx (xe c m.L s.sr s.wn k)⟩)]).L=qS m.L s ⟨3,xx (xe c m.L s.sr s.wn k)⟩:=by rw[K]
  have j:(m.took m.now [(s,⟨3,xx (xe c m.L s.sr s.wn k)⟩)]).Gl=m.Gl:=by rw[K]
  refine(JA U o t ht H hj _ l [(s,⟨3,xx (xe c m.L s.sr s.wn k)⟩)] (fun W Z=>ze (zbf (U.later Z).own o s P k Q)) A (by omega) b (vY _ _ _ d.hist.okA b) (by simp) (by omega) (by omega) _ (by omega) d.dok ⟨d.st.1,by have:=d.st.2;omega⟩ (by rw[a];exact(C _).1) (by rw[a];exact(C _).2)).mono ?_;rintro e w' ⟨Y,X⟩;refine⟨X,?_⟩;rcases Y with⟨F,G,r⟩|⟨F,G,q',TL',V,r,f⟩
  ·obtain⟨TL',f⟩:=KI c {m with L:=qS m.L s ⟨3,xx (xe c m.L s.sr s.wn k)⟩,Gl:=m.Gl,TL:=zT m.TL g.job,QL:=zT m.QL t};exact .inr ⟨G,d.lost o (m':={m with L:=qS m.L s ⟨3,xx (xe c m.L s.sr s.wn k)⟩,Gl:=m.Gl,TL:=TL',QL:=zT m.QL t}) (.rolled m ns t g s se ti rest k TL' H l Q f) b (zdq (by show¬((3:Int)=2\/(3:Int)=4);omega)) (by simp) (by simp) a.symm j.symm F r (.roll s se ti rest k TL' l Q f)⟩
  ·rw[K]at r f;obtain⟨⟨n,N⟩,M⟩:=d.after o (m':={m with L:=qS m.L s ⟨3,xx (xe c m.L s.sr s.wn k)⟩,Gl:=m.Gl,TL:=TL',QL:=zT m.QL t}) (.rolled m ns t g s se ti rest k TL' H l Q f) b (zdq (by show¬((3:Int)=2\/(3:Int)=4);omega)) (by simp) (by simp) a.symm j.symm F V;exact .inl ⟨G,_,_,⟨q',n,ns,r,N,rfl⟩,M,.roll s se ti rest k TL' l Q f⟩
 |false=>
  have b:∀y∈([(s,⟨4,qA⟩)]:List SX),okX y:=fun y D=>by
   rw[List.mem_singleton]at D;subst D;exact Kz s P.1 4 (by omega)
  have T:∀y∈([(s,⟨4,qA⟩)]:List SX),okN y:=fun y D _=>by rw[List.mem_singleton]at D;subst D;rfl
  have K:m.took m.now [(s,⟨4,qA⟩)]={m with L:=zT m.L s,Gl:=qj m.Gl s ()}:=by unfold MS.took qr;simp only[List.foldl_cons,List.foldl_nil];unfold jn;rfl
  have a:(m.took m.now [(s,⟨4,qA⟩)]).L=zT m.L s:=by rw[K]
  have j:(m.took m.now [(s,⟨4,qA⟩)]).Gl=qj m.Gl s ():=by rw[K]
  refine(JA U o t ht H hj _ l [(s,⟨4,qA⟩)] (fun W Z=>ze (zbe (U.later Z).own s)) A (by omega) b (vY _ _ _ d.hist.okA b) (by simp) (by omega) (by omega) _ (by omega) d.dok ⟨d.st.1,by have:=d.st.2;omega⟩ (by rw[a];exact z.1) (by rw[a];exact z.2)).mono ?_;rintro e w' ⟨Y,X⟩;refine⟨X,?_⟩;rcases Y with⟨F,G,r⟩|⟨F,G,q',TL',V,r,f⟩
  ·obtain⟨TL',f⟩:=KI c {m with L:=zT m.L s,Gl:=qj m.Gl s (),TL:=zT m.TL g.job,QL:=zT m.QL t};exact .inr ⟨G,d.lost o (m':={m with L:=zT m.L s,Gl:=qj m.Gl s (),TL:=TL',QL:=zT m.QL t}) (.reclaimed m ns t g s se ti rest TL' H l f) b T (by simp) (by simp) a.symm j.symm F r (.recl s se ti rest TL' l f)⟩
  ·rw[K]at r f;obtain⟨⟨n,N⟩,M⟩:=d.after o (m':={m with L:=zT m.L s,Gl:=qj m.Gl s (),TL:=TL',QL:=zT m.QL t}) (.reclaimed m ns t g s se ti rest TL' H l f) b T (by simp) (by simp) a.symm j.symm F V;exact .inl ⟨G,_,_,⟨q',n,ns,r,N,rfl⟩,M,.recl s se ti rest TL' l f⟩
end
def zfd(c:Cf)(S:DS)(keep:Int)(Q:MS->Prop):Prop:=∃(m:MS) (nh:List Nm) (t0:ByteArray) (a:List Rw) (t:ByteArray) (dr:List FS),Xp S keep=crS 1 t dr/\zdU 2000000000 dr/\t.size<=300000000000/\t.extract 0 (JC t)=xb a/\VC c m a/\(xb a).size<=300000000000/\ki c 1 m nh t0/\Q m
theorem zfd.mono{keep:Int}{Q Q':MS->Prop}(h:zfd c S keep Q)(k:∀m,Q m->Q' m):zfd c S keep Q':=by
 obtain⟨m,nh,t0,l,t,dr,a,b,d,e,f,g,i,j⟩:=h;exact⟨m,nh,t0,l,t,dr,a,b,d,e,f,g,i,k m j⟩
theorem ki.rowsOf(b:c.ok)(h:ki c 1 m nh txt):∃a,txt=xb a/\VC c m a:=by
 obtain⟨a,d,e,f,g⟩:=h.read b (by have:=h.few b;omega);exact⟨a,d,e,f,g⟩
theorem znP(n:Nat):noB.extract 0 n=noB:=by
 apply ByteArray.ext;rw[ByteArray.data_extract];simp[noB]
theorem K6(j:c.ok)(h:ki c 1 m nh txt)(o:txt.size<=250000000000)(k:zdU 2000000000 dr)(l:Int)(b:Bool)(keep:Int):zfd c (shS 1 txt noB dr l b) keep (fun x=>x=m):=by
 obtain⟨n,a,hn,d,f⟩:=zbd (e:=1) (txt:=txt) (lo:=noB) (l:=l) (b:=b) k keep;rw[znP,jg]at f;obtain⟨g,rfl,i⟩:=h.rowsOf j;exact⟨m,nh,_,g,_,a,f,d,by omega,JD g,i,by omega,h,rfl⟩
theorem zkI{i:List Nm}{xs:List SX}(w:c.ok)(h:ki c 1 m nh txt)(D:txt.size<=250000000000)(C:(xm m'.now xs++nl).size<=200000)(v:ki c 1 m' i (txt++(xm m'.now xs++nl)))(B:zdU 2000000000 dr)(l:Int)(b:Bool)(keep:Int):zfd c (shS 1 txt (xm m'.now xs++nl) dr l b) keep (fun x=>x=m\/x=m'):=by
 obtain⟨n,d,hn,f,y⟩:=zbd (e:=1) (txt:=txt) (lo:=xm m'.now xs++nl) (l:=l) (b:=b) B keep;obtain⟨j,o,A⟩:=h.rowsOf w;obtain⟨t,u,p⟩:=v.rowsOf w;have g:∀k,k<=(xm m'.now xs++nl).size->(txt++(xm m'.now xs++nl).extract 0 k).size<=300000000000:=fun k F=>by
  rw[ByteArray.size_append,YH];have:=Nat.min_le_right k (xm m'.now xs++nl).size;omega
 have r:(txt++(xm m'.now xs++nl)).size<=300000000000:=by rw[ByteArray.size_append];omega
 obtain⟨s,q,a⟩:=zjW j m'.now xs n hn;rw[<-o]at a;rcases q with rfl|rfl
 ·exact⟨m,nh,_,s,_,d,y,f,g n hn,a,A,by rw[<-o];omega,h,.inl rfl⟩
 ·have z:xb (j++[(m'.now,xs)])=txt++(xm m'.now xs++nl):=by
   rw[o];apply ByteArray.ext;rw[ByteArray.data_append,ByteArray.data_append];unfold xb;show((j++[(m'.now,xs)]).flatMap kw).toArray=(j.flatMap kw).toArray++((Zd m'.now xs).toArray++#[10]);simp[kw]
  rw[z,u]at a;exact⟨m',i,_,t,_,d,y,f,g n hn,a,p,by rw[<-u];exact r,v,.inr rfl⟩
structure zgV(w:E)(i:Ids)(c:Cf)(S:DS)(Q:MS->Prop):Prop where
 at_:∃fs,Yt w i.d S fs/\∀k,foot i.d fs k->zt w i k
 dok:DOk S 400000000000
 crs:∀keep,zfd c S keep Q
section
variable {w w':E} {i:Ids} {c:Cf} {m:MS} {S:DS} {P:MS->Prop}
theorem zO.dkat{q:JM}(h:zO w i c ep m q):∃fs,Yt w i.d q.S fs/\∀k,foot i.d fs k->zt w i k:=by
 obtain⟨fs,a⟩:=h.jrn;refine⟨fs,a.disk,fun k b=>?_⟩;rcases b with e|e
 ·exact .inl (.inr (.inr (.inr (.inr e))))
 ·exact .inr (a.fsB.trans e)
theorem xh.dsk(h:xh w i c m S)(d:c.ok):zgV w i c S (fun x=>x=m):=by
 obtain⟨q,txt,ns,e,a,rfl⟩:=h;refine⟨e.dkat,a.dok,fun keep=>?_⟩;have b:=a.dsk
 revert b
 generalize q.S=S;intro b;cases b with
 |live l g=>exact K6 d a.hist a.sz (.inl rfl) l false keep
 |down l g dr f=>exact K6 d a.hist a.sz f l true keep
theorem vO.dsk(h:vO w i c m P)(k:c.ok):∃S,zgV w i c S (fun x=>x=m\/P x)/\zj S=true:=by
 obtain⟨q,txt,ns,lo,dr,l,p,s,r,d,t,b,j,a⟩:=h;have f:zj (shS 1 txt lo dr l true)=true:=(Qh _ (.inr rfl)).1;refine⟨shS 1 txt lo dr l true,⟨r▸p.dkat,?_,fun keep=>?_⟩,f⟩
 ·have g:lo.size<=200000:=by
   rcases a with rfl|⟨m',ns',xs,-,h,-⟩
   ·exact Nat.zero_le _
   ·exact h
  exact YP (N:=2000000000) (by omega) (by omega) (by omega) (by omega) d t
 ·rcases a with rfl|⟨m',ns',xs,rfl,g,n,o⟩
  ·exact(K6 k j b d l true keep).mono (fun _ e=> .inl e)
  ·exact(zkI k j b g n d l true keep).mono (fun x e=>e.imp id (fun e=>by rw[e];exact o))
theorem zpW(h:vO w i c m P)(g:c.ok):
  Calls Tryz.prog 26 #[(O i.x),I 1] w fun e w'=>∃v:Int,e=.returned (I v)/\¬v=0/\vO w' i c m P/\Kx i w w':=by
 obtain⟨q,txt,ns,lo,dr,l,r,b,j,t,z,n,p,d⟩:=h;have a:=p.sok g;by_cases k:m.now+1<=100000
 ·have D:=a.ok.seg.len400 g;have M:=a.gl g;have U:lo.size<=200000:=by
   rcases d with rfl|⟨m',ns',xs,-,h,-⟩
   ·exact Nat.zero_le _
   ·exact h
  have u:DOk q.S 400000000000:=by rw[j];exact YP (N:=2000000000) (by omega) (by omega) (by omega) (by omega) t z
  have A:0<=q.st/\q.st<=1099511627776:=⟨b.2.1,by have:=b.2.2;omega⟩;have f:zj q.S=true:=by rw[j];exact(Qh _ (.inr rfl)).1
  refine(ziG r g 1 (by omega) ⟨a.ok.now.1,k⟩ (a.ok.binv g) a.ok.seg.inr (by omega) (fun T Q y=>by
   have B:=(K8 (ep:=1) (c:=c) (L:=m.L) (num:=m.num) (show m.now<=m.now+1 by omega) a.ok.td a.ok.nt a.ok.leas a.ok.nq a.ok.jobs y);have F:=jW (zk T) (zk m.TL) B.2.1 (fun x R=>(B.2.2.2.2.2.2.2 x).1 R);have V:=a.ok.t800 g;simp[zk]at F;omega) p.okA (by omega) _ (by omega) u A).mono ?_
  rintro e w' ⟨K,G⟩;rcases K with⟨o,y,H⟩|⟨o,-⟩
  ·have s:Qa q.S (xm (m.now+1) [])=q.S:=by
    unfold Qa;rw[if_pos f,xS f,j];exact(Qh _ (.inr rfl)).2
   refine⟨13,y,by decide,⟨_,txt,ns,lo,dr,l,H,⟨rfl,b.2⟩,?_,t,z,n,p,d⟩,G⟩;show Qa q.S (xm (m.now+1) [])=_;rw[s,j]
  ·unfold yR at o;rw[f]at o;cases o
 ·refine(J4 r.own 1 (.inr (.inr (by omega))) a.ok.now).mono ?_;rintro e w' ⟨rfl,C⟩;exact⟨5,rfl,by decide,⟨q,txt,ns,lo,dr,l,r.later C,b,j,t,z,n,p,d⟩,Kx.below C r.dlt⟩
theorem zF.toH(h:zF w i c 1 m):∃S,xh w i c m S/\Nev S/\∃txt,S=jS 1 txt:=by
 obtain⟨q,txt,ns,a⟩:=h;have d:=a.tx;have e:=a.st;have b:q.S=jS 1 txt:=a.dsk;exact⟨q.S,⟨q,txt,ns,a.at_,⟨a.up,by rw[b];exact UpS.jS _ _ _,e,by omega,fun _=>d,a.hist⟩,rfl⟩,by rw[b];exact⟨rfl,rfl⟩,txt,b⟩
theorem zpU(h:xh w i c m (jS 1 txt))(n:Int)(hn:0<=n/\n<=1000):
  Calls Tryz.prog 28 #[(O i.d),I n] w fun e w'=>e=.returned (.tuple #[])/\(∃S,xh w' i c m S)/\Kx i w w':=by
 obtain⟨q,t2,ns,p,a,r⟩:=h;obtain⟨fs,g⟩:=p.jrn;refine(zml 0 i.d q.S fs n w g.disk).mono ?_;rintro e w' ⟨rfl,s,t⟩;obtain⟨u,v⟩:=p.putJrn g (st':=q.st) (S':=ZF q.S n) ⟨fs,g.after s t,t.mono (fun _ _ e=> .inr e),qw.refl _ _⟩;have b:∃l:Int,(-1<=l/\l<=1000)/\ZF q.S n=shS 1 t2 noB [] l false:=by
  have k:=a.dsk;rw[r]at k ⊢;have o:zj (jS 1 txt)=false:=(qZ (S:=jS 1 txt) rfl rfl).1;generalize x:jS 1 txt=X at k o ⊢;cases k with
  |live l j=>
   refine⟨if n<0 then-1 else n,by split<;>omega,?_⟩
   unfold ZF;rw[o];rfl
  |down l j dr s=>exact absurd (show false=true from congrArg DS.down x) (by decide)
 obtain⟨l,j,b⟩:=b;have f:q.S.down=false:=by rw[r];rfl
 exact⟨rfl,⟨_,⟨_,t2,ns,u,⟨a.up,by show UpS 2000000000 1 t2 (ZF q.S n);rw[b];exact .live l j,a.st,a.sz,fun _=>a.tx f,a.hist⟩,rfl⟩⟩,v⟩
end
structure yQ(i:Ids)(Mp:E->Prop):Prop where
 kept:∀{f:Nat->Prop} {w w':E},Mp w->zi f w w'->(∀k,zt w i k->¬f k)->¬f vR->Mp w'
 dlt:∀{w:E},Mp w->i.d<w.1.size
 foot_lt:∀{w:E},Mp w->∀k,zt w i k->k<w.1.size
theorem yQ.up(i:Ids)(c:Cf)(m:MS)(S:DS):yQ i (fun w=>xh w i c m S):=⟨fun h a hn b=>h.kept a hn b,fun h=>h.dlt,fun h=>h.foot_lt⟩
theorem yQ.lost(i:Ids)(c:Cf)(m:MS)(P:MS->Prop):yQ i (fun w=>vO w i c m P):=⟨fun h a hn d=>by
 obtain⟨q,txt,ns,lo,dr,l,h,b⟩:=h;exact⟨q,txt,ns,lo,dr,l,h.kept a hn d,b⟩,fun h=>by obtain⟨q,txt,ns,lo,dr,l,h,-⟩:=h;exact h.dlt,fun h=>by obtain⟨q,txt,ns,lo,dr,l,h,-⟩:=h;exact h.foot_lt⟩
structure zJ(w:E)(B:Nat)(s:Shp)(c:Cf)(Mp:E->Prop)(sn:Int)(ns:List Nm)(ks:List Tok)(us:List Int):Prop where
 head:w.1[s.p]?=J (.cells #[(O s.i.x),(O s.d),I c.s,I c.le,I c.la,I c.wi,I c.ke,I c.qu,s.ct,I sn,s.nv,s.kv,s.uv] 44 (0,0))
 mill:Mp w
 crow:w.ownsRow B 80 3 s.ct c.n (ZC c.n c.F c.W c.K)
 nrow:w.ownsRow B 87 3 s.nv ns.length (ns.flatMap nmV)
 krow:w.ownsRow B 49 2 s.kv ks.length (ks.flatMap zdP)
 urow:w.ownsRow B 3 1 s.uv us.length (us.map (I))
 lo:B<=s.p
 mlo:∀j,zt w s.i j->B<=j
 sep:∀j,qo s j->¬zt w s.i j
 dd:s.d=s.i.d
 tb:vR<B
 mp:yQ s.i Mp
section
variable {w:E} {B:Nat} {s:Shp} {c:Cf} {Mp:E->Prop} {sn:Int} {ns:List Nm} {ks:List Tok} {us:List Int}
theorem zJ.lt(h:zJ w B s c Mp sn ns ks us):s.p<w.1.size:=zd h.head
theorem zJ.foot_lt(h:zJ w B s c Mp sn ns ks us):∀j,qo s j->j<w.1.size:=fun j d=>by
 rcases d with rfl|e|e|e|e
 ·exact h.lt
 ·obtain⟨a,b⟩:=zH h.crow e;exact zd b
 ·obtain⟨a,b⟩:=zH h.nrow e;exact zd b
 ·obtain⟨a,b⟩:=zH h.krow e;exact zd b
 ·obtain⟨a,b⟩:=zH h.urow e;exact zd b
theorem zJ.foot_lo(h:zJ w B s c Mp sn ns ks us):∀j,qo s j->B<=j:=fun j a=>by
 rcases a with rfl|e|e|e|e
 ·exact h.lo
 ·exact(h.crow.lt j e).1
 ·exact(h.nrow.lt j e).1
 ·exact(h.krow.lt j e).1
 ·exact(h.urow.lt j e).1
theorem zJ.kept(h:zJ w B s c Mp sn ns ks us)(a:zi f w w')(b:∀j,qo s j->¬f j)(g:∀j,zt w s.i j->¬f j)(l:¬f vR):zJ w' B s c Mp sn ns ks us:=
 have k:=zP (i:=s.i) a (g _ (.inl (.inr (.inr (.inr (.inr rfl)))))) (h.mp.dlt h.mill)
 ⟨a.heap h.head (b _ (.inl rfl)),h.mp.kept h.mill a g l,zh h.crow a (fun j e=>b j (.inr (.inl e))),zh h.nrow a (fun j e=>b j (.inr (.inr (.inl e)))),zh h.krow a (fun j e=>b j (.inr (.inr (.inr (.inl e))))),zh h.urow a (fun j e=>b j (.inr (.inr (.inr (.inr e))))),h.lo,fun j d=>h.mlo j (k j d),fun j d m=>h.sep j d (k j m),h.dd,h.tb,h.mp⟩
theorem zJ.later(h:zJ w B s c Mp sn ns ks us)(a:Below w.1.size w w'):zJ w' B s c Mp sn ns ks us:=h.kept (f:=fun _=>False) (zi.of_below a) (fun _ _ e=>e) (fun _ _ e=>e) (fun e=>e)
theorem zJ.putMill{a:E->Prop}(l:yQ s.i a)(h:zJ w B s c Mp sn ns ks us)(f:a w')(k:Kx s.i w w'):zJ w' B s c a sn ns ks us:=
 have d:=k.kept
 have g:∀j,zt w' s.i j->zt w s.i j\/w.1.size<=j:=fun j b=>by
  rcases b with e|e
  ·exact .inl (.inl e)
  ·rcases k.fs j e with e|e
   ·exact .inl (.inr e)
   ·exact .inr e
 ⟨d.heap h.head (h.sep _ (.inl rfl)),f,zh h.crow d (fun j e=>h.sep j (.inr (.inl e))),zh h.nrow d (fun j e=>h.sep j (.inr (.inr (.inl e)))),zh h.krow d (fun j e=>h.sep j (.inr (.inr (.inr (.inl e))))),zh h.urow d (fun j e=>h.sep j (.inr (.inr (.inr (.inr e))))),h.lo,fun j b=>by
  rcases g j b with e|e
  ·exact h.mlo j e
  ·have m:=h.lo;have n:=h.lt;omega,fun j b f=>by
  rcases g j f with e|e
  ·exact h.sep j b e
  ·have:=h.foot_lt j b;omega,h.dd,h.tb,l⟩
theorem zJ.cells(h:zJ w B s c Mp sn ns ks us):w.cell? (U s.p 0)=J (O s.i.x)/\w.cell? (U s.p 2)=J (I c.s)/\w.cell? (U s.p 3)=J (I c.le)/\w.cell? (U s.p 4)=J (I c.la)/\w.cell? (U s.p 7)=J (I c.qu)/\w.cell? (U s.p 8)=J s.ct/\w.cell? (U s.p 9)=J (I sn)/\w.cell? (U s.p 10)=J s.nv/\w.cell? (U s.p 11)=J s.kv/\w.cell? (U s.p 12)=J s.uv:=by
 refine⟨?_,?_,?_,?_,?_,?_,?_,?_,?_,?_⟩<;>rw[xR h.head]<;>rfl
theorem zJ.dne(h:zJ w B s c Mp sn ns ks us):¬s.i.d=s.p:=fun e=>h.sep s.p (.inl rfl) (.inl (.inr (.inr (.inr (.inr e.symm)))))
theorem zJ.dnr(h:zJ w B s c Mp sn ns ks us)(hv:∀j,v.ownBlock=J j->qo s j):¬v.ownBlock=J s.i.d:=fun e=>h.sep _ (hv _ e) (.inl (.inr (.inr (.inr (.inr rfl)))))
theorem zJ.tnr(h:zJ w B s c Mp sn ns ks us)(hv:∀j,v.ownBlock=J j->qo s j):¬v.ownBlock=J vR:=fun e=>by have a:=h.foot_lo _ (hv _ e);have b:=h.tb;omega
theorem zJ.tnp(h:zJ w B s c Mp sn ns ks us):¬vR=s.p:=fun e=>by have a:=h.tb;have b:=h.lo;omega
theorem zJ.keptP(h:zJ w B s c Mp sn ns ks us)(a:zi (fun k=>k=s.p) w w'):Mp w'/\w'.ownsRow B 80 3 s.ct c.n (ZC c.n c.F c.W c.K)/\w'.ownsRow B 87 3 s.nv ns.length (ns.flatMap nmV)/\w'.ownsRow B 49 2 s.kv ks.length (ks.flatMap zdP)/\w'.ownsRow B 3 1 s.uv us.length (us.map (I)):=
 ⟨h.mp.kept h.mill a (fun j b e=>h.sep s.p (.inl rfl) (e▸b)) (fun e=>by have f:=h.tb;have g:=h.lo;have d:vR=s.p:=e;omega),zh h.crow a (zp h.head h.crow (by decide)),zh h.nrow a (zp h.head h.nrow (by decide)),zh h.krow a (zp h.head h.krow (by decide)),zh h.urow a (zp h.head h.urow (by decide))⟩
theorem zJ.setNow(h:zJ w B s c Mp sn ns ks us)(n:Int):zJ (w.setCell (U s.p 9) (I n)) B s c Mp n ns ks us:=by
 have b:=zP (i:=s.i) (zg (i:=9) (v:=I n) (zi.refl (fun k=>k=s.p) w) rfl) h.dne (h.mp.dlt h.mill);obtain⟨a1,a2,a3,a4,a5⟩:=h.keptP (zg (i:=9) (v:=I n) (zi.refl (fun k=>k=s.p) w) rfl);exact⟨xD (i:=9) h.head (I n),a1,a2,a3,a4,a5,h.lo,fun j a=>h.mlo j (b j a),fun j a d=>h.sep j a (b j d),h.dd,h.tb,h.mp⟩
theorem zJ.sepNew(h:zJ w B s c Mp sn ns ks us)(hv:∀j,v.ownBlock=J j->qo s j)(d:∀j,z.ownBlock=J j->v.ownBlock=J j\/w.1.size<=j):∀j,z.ownBlock=J j->¬zt w s.i j:=fun j b a=>by
 rcases d j b with e|e
 ·exact h.sep j (hv j e) a
 ·have:=h.mp.foot_lt h.mill j a;omega
theorem zJ.setNums{x:Nm}(h:zJ w B s c Mp sn ns ks us)(g:zi (fun k=>s.nv.ownBlock=J k) w w5)(b:w5.ownsRow B 87 3 z (ns++[x]).length ((ns++[x]).flatMap nmV))(o:∀j,z.ownBlock=J j->s.nv.ownBlock=J j\/w.1.size<=j):
  zJ (w5.setCell (U s.p 10) z) B {s with nv:=z} c Mp sn (ns++[x]) ks us:=by
 have a:=g.heap h.head (fun e=>zp h.head h.nrow (by decide) s.p e rfl);have l:zi (fun k=>k=s.p) w5 (w5.setCell (U s.p 10) z):=zg (zi.refl _ _) rfl;have a1:=zh h.crow g (zU h.crow h.nrow (by decide));have a2:=zh h.krow g (zU h.krow h.nrow (by decide));have a3:=zh h.urow g (zU h.urow h.nrow (by decide));have hv:∀j,s.nv.ownBlock=J j->qo s j:=fun j e=> .inr (.inr (.inl e));have a4:=h.mp.kept h.mill g (fun j f e=>h.sep j (.inr (.inr (.inl e))) f) (h.tnr hv);have d:=zP (i:=s.i) g (h.dnr hv) (h.mp.dlt h.mill);have m:=zP (i:=s.i) l h.dne (h.mp.dlt a4);refine⟨xD (i:=10) a z,h.mp.kept a4 l (fun j f e=>h.sep s.p (.inl rfl) (e▸(d j f))) h.tnp,zh a1 l (zp a a1 (by decide)),zh b l (zp a b (by decide)),zh a2 l (zp a a2 (by decide)),zh a3 l (zp a a3 (by decide)),h.lo,fun j f=>h.mlo j (d j (m j f)),fun j f n=>(?_:¬zt w s.i j) (d j (m j n)),h.dd,h.tb,h.mp⟩;rcases f with e|e|e|e|e
 ·exact h.sep j (.inl e)
 ·exact h.sep j (.inr (.inl e))
 ·exact h.sepNew (v:=s.nv) (fun j e=> .inr (.inr (.inl e))) o j e
 ·exact h.sep j (.inr (.inr (.inr (.inl e))))
 ·exact h.sep j (.inr (.inr (.inr (.inr e))))
theorem zJ.setToks{x:Tok}(h:zJ w B s c Mp sn ns ks us)(g:zi (fun k=>s.kv.ownBlock=J k) w w5)(b:w5.ownsRow B 49 2 z (ks++[x]).length ((ks++[x]).flatMap zdP))(o:∀j,z.ownBlock=J j->s.kv.ownBlock=J j\/w.1.size<=j):
  zJ (w5.setCell (U s.p 11) z) B {s with kv:=z} c Mp sn ns (ks++[x]) us:=by
 have a:=g.heap h.head (fun e=>zp h.head h.krow (by decide) s.p e rfl);have l:zi (fun k=>k=s.p) w5 (w5.setCell (U s.p 11) z):=zg (zi.refl _ _) rfl;have a1:=zh h.crow g (zU h.crow h.krow (by decide));have a2:=zh h.nrow g (zU h.nrow h.krow (by decide));have a3:=zh h.urow g (zU h.urow h.krow (by decide));have hv:∀j,s.kv.ownBlock=J j->qo s j:=fun j e=> .inr (.inr (.inr (.inl e)));have a4:=h.mp.kept h.mill g (fun j f e=>h.sep j (.inr (.inr (.inr (.inl e)))) f) (h.tnr hv);have d:=zP (i:=s.i) g (h.dnr hv) (h.mp.dlt h.mill);have m:=zP (i:=s.i) l h.dne (h.mp.dlt a4);refine⟨xD (i:=11) a z,h.mp.kept a4 l (fun j f e=>h.sep s.p (.inl rfl) (e▸(d j f))) h.tnp,zh a1 l (zp a a1 (by decide)),zh a2 l (zp a a2 (by decide)),zh b l (zp a b (by decide)),zh a3 l (zp a a3 (by decide)),h.lo,fun j f=>h.mlo j (d j (m j f)),fun j f n=>(?_:¬zt w s.i j) (d j (m j n)),h.dd,h.tb,h.mp⟩;rcases f with e|e|e|e|e
 ·exact h.sep j (.inl e)
 ·exact h.sep j (.inr (.inl e))
 ·exact h.sep j (.inr (.inr (.inl e)))
 ·exact h.sepNew (v:=s.kv) (fun j e=> .inr (.inr (.inr (.inl e)))) o j e
 ·exact h.sep j (.inr (.inr (.inr (.inr e))))
theorem zJ.setUnts{x:Int}(h:zJ w B s c Mp sn ns ks us)(g:zi (fun k=>s.uv.ownBlock=J k) w w5)(b:w5.ownsRow B 3 1 z (us++[x]).length ((us++[x]).map (I)))(o:∀j,z.ownBlock=J j->s.uv.ownBlock=J j\/w.1.size<=j):
  zJ (w5.setCell (U s.p 12) z) B {s with uv:=z} c Mp sn ns ks (us++[x]):=by
 have a:=g.heap h.head (fun e=>zp h.head h.urow (by decide) s.p e rfl);have l:zi (fun k=>k=s.p) w5 (w5.setCell (U s.p 12) z):=zg (zi.refl _ _) rfl;have a1:=zh h.crow g (zU h.crow h.urow (by decide));have a2:=zh h.nrow g (zU h.nrow h.urow (by decide));have a3:=zh h.krow g (zU h.krow h.urow (by decide));have hv:∀j,s.uv.ownBlock=J j->qo s j:=fun j e=> .inr (.inr (.inr (.inr e)));have a4:=h.mp.kept h.mill g (fun j f e=>h.sep j (.inr (.inr (.inr (.inr e)))) f) (h.tnr hv);have d:=zP (i:=s.i) g (h.dnr hv) (h.mp.dlt h.mill);have m:=zP (i:=s.i) l h.dne (h.mp.dlt a4);refine⟨xD (i:=12) a z,h.mp.kept a4 l (fun j f e=>h.sep s.p (.inl rfl) (e▸(d j f))) h.tnp,zh a1 l (zp a a1 (by decide)),zh a2 l (zp a a2 (by decide)),zh a3 l (zp a a3 (by decide)),zh b l (zp a b (by decide)),h.lo,fun j f=>h.mlo j (d j (m j f)),fun j f n=>(?_:¬zt w s.i j) (d j (m j n)),h.dd,h.tb,h.mp⟩;rcases f with e|e|e|e|e
 ·exact h.sep j (.inl e)
 ·exact h.sep j (.inr (.inl e))
 ·exact h.sep j (.inr (.inr (.inl e)))
 ·exact h.sep j (.inr (.inr (.inr (.inl e))))
 ·exact h.sepNew (v:=s.uv) (fun j e=> .inr (.inr (.inr (.inr e)))) o j e
theorem zJ.setUnt(h:zJ w B s c Mp sn ns ks us)(d:s.uv=.slice (J (U g 0)) us.length cap)(j:Nat)(x:Int):zJ (w.setCell (U g j) (I x)) B s c Mp sn ns ks (us.set j x):=by
 have o:=h.urow;rw[d]at o;have n:=(o.stored j (I x)).1;rw[<-d]at n;have f:s.uv.ownBlock=J g:=by rw[d];rfl
 have a:zi (fun k=>s.uv.ownBlock=J k) w (w.setCell (U g j) (I x)):=zg (zi.refl _ _) f;have l:=a.heap h.head (fun e=>zp h.head h.urow (by decide) s.p e rfl);have hv:∀j,s.uv.ownBlock=J j->qo s j:=fun j e=> .inr (.inr (.inr (.inr e)));have m:=zP (i:=s.i) a (h.dnr hv) (h.mp.dlt h.mill);exact⟨l,h.mp.kept h.mill a (fun j b e=>h.sep j (.inr (.inr (.inr (.inr e)))) b) (h.tnr hv),zh h.crow a (zU h.crow h.urow (by decide)),zh h.nrow a (zU h.nrow h.urow (by decide)),zh h.krow a (zU h.krow h.urow (by decide)),by simpa[List.map_set]using n,h.lo,fun j b=>h.mlo j (m j b),fun j b q=>h.sep j b (m j q),h.dd,h.tb,h.mp⟩
end
def xW(w:E)(s:Shp)(k:Nat):Prop:=qo s k\/zt w s.i k
structure KpS(w:E)(s:Shp)(w':E)(s':Shp):Prop where
 kept:zi (xW w s) w w'
 new:∀k,xW w' s' k->xW w s k\/w.1.size<=k
theorem KpS.trans{a b d:E}{u:Shp}(h:KpS a s b t)(k:KpS b t d u):KpS a s d u:=
 ⟨h.kept.trans k.kept (fun i c e=>(h.new i e).elim id (fun e=>by omega)),fun i c=>by
  rcases k.new i c with e|e
  ·exact h.new i e
  ·exact .inr (Nat.le_trans h.kept.size e)⟩
theorem KpS.drew(h:KpS w s w' s'):KpS w s w'.drew s':=⟨h.kept.drew,h.new⟩
theorem KpS.of(b:zi (qo s) w w')(c:¬qo s s.i.d)(g:s.i.d<w.1.size)(f:s'.i=s.i)(hn:∀k,qo s' k->qo s k\/w.1.size<=k):KpS w s w' s':=
 ⟨b.mono (fun _ _ e=> .inl e),fun k a=>by
  rcases a with e|e
  ·exact(hn k e).imp .inl id
  ·rw[f]at e;exact .inl (.inr (zP b c g k e))⟩
section
variable {w:E} {B:Nat} {s:Shp} {c:Cf} {Mp:E->Prop} {sn:Int} {ns:List Nm} {ks:List Tok} {us:List Int}
theorem zJ.dno(h:zJ w B s c Mp sn ns ks us):¬qo s s.i.d:=fun e=>h.sep _ e (.inl (.inr (.inr (.inr (.inr rfl)))))
theorem zJ.kpB(h:zJ w B s c Mp sn ns ks us)(a:Below w.1.size w w'):KpS w s w' s:=.of (zi.of_below a) h.dno (h.mp.dlt h.mill) rfl (fun _ e=> .inl e)
theorem zJ.kpM(h:zJ w B s c Mp sn ns ks us)(a:Kx s.i w w'):KpS w s w' s:=
 ⟨a.kept.mono (fun _ _ e=> .inr e),fun k b=>by
  rcases b with e|e|e
  ·exact .inl (.inl e)
  ·exact .inl (.inr (.inl e))
  ·exact(a.fs k e).imp (fun e=> .inr (.inr e)) id⟩
theorem zJ.kpNow(h:zJ w B s c Mp sn ns ks us)(v:Value):KpS w s (w.setCell (U s.p 9) v) s:=.of (zg (zi.refl _ _) (.inl rfl)) h.dno (h.mp.dlt h.mill) rfl (fun _ e=> .inl e)
theorem zJ.kpUnt(h:zJ w B s c Mp sn ns ks us)(a:s.uv=.slice (J (U g 0)) us.length cap)(j:Nat)(v:Value):KpS w s (w.setCell (U g j) v) s:=.of (zg (zi.refl _ _) (.inr (.inr (.inr (.inr (by rw[a];rfl)))))) h.dno (h.mp.dlt h.mill) rfl (fun _ e=> .inl e)
theorem zJ.kpNums(h:zJ w B s c Mp sn ns ks us)(a:zi (fun k=>s.nv.ownBlock=J k) w w5)(b:∀j,z.ownBlock=J j->s.nv.ownBlock=J j\/w.1.size<=j):KpS w s (w5.setCell (U s.p 10) z) {s with nv:=z}:=
 .of (zg (a.mono (fun _ _ e=> .inr (.inr (.inl e)))) (.inl rfl)) h.dno (h.mp.dlt h.mill) rfl (fun k e=>by
  rcases e with e|e|e|e|e
  ·exact .inl (.inl e)
  ·exact .inl (.inr (.inl e))
  ·exact(b k e).imp (fun e=> .inr (.inr (.inl e))) id
  ·exact .inl (.inr (.inr (.inr (.inl e))))
  ·exact .inl (.inr (.inr (.inr (.inr e)))))
theorem zJ.kpToks(h:zJ w B s c Mp sn ns ks us)(a:zi (fun k=>s.kv.ownBlock=J k) w w5)(b:∀j,z.ownBlock=J j->s.kv.ownBlock=J j\/w.1.size<=j):KpS w s (w5.setCell (U s.p 11) z) {s with kv:=z}:=
 .of (zg (a.mono (fun _ _ e=> .inr (.inr (.inr (.inl e))))) (.inl rfl)) h.dno (h.mp.dlt h.mill) rfl (fun k e=>by
  rcases e with e|e|e|e|e
  ·exact .inl (.inl e)
  ·exact .inl (.inr (.inl e))
  ·exact .inl (.inr (.inr (.inl e)))
  ·exact(b k e).imp (fun e=> .inr (.inr (.inr (.inl e)))) id
  ·exact .inl (.inr (.inr (.inr (.inr e)))))
theorem zJ.kpUnts(h:zJ w B s c Mp sn ns ks us)(a:zi (fun k=>s.uv.ownBlock=J k) w w5)(b:∀j,z.ownBlock=J j->s.uv.ownBlock=J j\/w.1.size<=j):KpS w s (w5.setCell (U s.p 12) z) {s with uv:=z}:=
 .of (zg (a.mono (fun _ _ e=> .inr (.inr (.inr (.inr e))))) (.inl rfl)) h.dno (h.mp.dlt h.mill) rfl (fun k e=>by
  rcases e with e|e|e|e|e
  ·exact .inl (.inl e)
  ·exact .inl (.inr (.inl e))
  ·exact .inl (.inr (.inr (.inl e)))
  ·exact .inl (.inr (.inr (.inr (.inl e))))
  ·exact(b k e).imp (fun e=> .inr (.inr (.inr (.inr e)))) id)
end
theorem zJ.other{B B2:Nat}{Mp:E->Prop}{sn:Int}{ns:List Nm}{ks:List Tok}{us:List Int}(h:zJ w B2 t c Mp sn ns ks us)(f:KpS w s w' s')(b:∀k,xW w t k->¬xW w s k)(n:¬xW w s vR):zJ w' B2 t c Mp sn ns ks us/\∀k,xW w' t k->¬xW w' s' k:=by
 have a:∀k,zt w' t.i k->zt w t.i k:=zP f.kept (b _ (.inr (.inl (.inr (.inr (.inr (.inr rfl))))))) (h.mp.dlt h.mill);refine⟨h.kept f.kept (fun j d=>b j (.inl d)) (fun j d=>b j (.inr d)) n,fun k g l=>?_⟩;have m:xW w t k:=g.imp id (a k);rcases f.new k l with e|e
 ·exact b k m e
 ·have o:k<w.1.size:=m.elim (fun e=>h.foot_lt k e) (fun e=>h.mp.foot_lt h.mill k e);omega
end Go.Proofs.YtndhpgciopcncaaGreatDoor
