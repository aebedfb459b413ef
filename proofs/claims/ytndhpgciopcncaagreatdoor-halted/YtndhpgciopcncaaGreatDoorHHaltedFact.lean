import Derived.Test.YtndhpgciopcncaaGreatDoorRows
import Derived.Test.YtndhpgciopcncaaGreatDoorChecked
import Derived.WalkKit
import Derived.ProofKit
import Derived.Shelf.SlLaysF0
import Derived.Shelf.SlGeneric
import Derived.Test.YtndhpgciopcncaaGreatDoorProg
import Derived.Shelf.Strconv.AppendIntPublic10
import Derived.Shelf.Strings.LastIndex
import Derived.Shelf.Small.Strs
import Derived.Shelf.Strings.Fields
import Derived.Shelf.Strconv.ParseIntPublic10
import Derived.Lib.ParseIntB
import Derived.Lib.ItoaMem
import Derived.Lib.Fields
open Option renaming some → J
set_option linter.unusedVariables false
open Go.Proofs.Tryz
namespace Go.Proofs.YtndhpgciopcncaaGreatDoor
open Go.ChangeShapes Go.WideShapes Go.ChangeAt Go.RowKit
set_option maxRecDepth 100000
theorem zkX:(Rows.haltedRow.inPlace==Tryz.pinned.checked.prog.inPlace 10)=true:=by kernel_rfl
theorem zkY:(Rows.haltedRow.unfollowed==Tryz.pinned.checked.prog.unfollowed 10)=true:=by kernel_rfl
theorem zkZ:(Rows.haltedRow.recurses==Tryz.pinned.checked.prog.recurses 10)=true:=by kernel_rfl
theorem zla:(Rows.haltedRow.named==Tryz.pinned.checked.prog.varsNamed 10)=true:=by kernel_rfl
theorem zbp:joinedFacts Tryz.pinned.checked.prog 10 Tryz.f10 Rows.haltedSpec Rows.haltedRow=true:=by
 simp only[joinedFacts,Bool.and_eq_true];repeat' apply And.intro
 all_goals first|with_reducible exact zkX|with_reducible exact zkY|with_reducible exact zkZ|with_reducible exact zla|kernel_rfl
end Go.Proofs.YtndhpgciopcncaaGreatDoor
namespace Go.Proofs
open Go.Shelf
def Tryz.sortTsk_ren:Go.Shelf.Ren:=⟨fun|6=>165|15=>230|14=>229|28=>261|29=>262|20=>253|21=>254|22=>255|23=>256|24=>257|25=>258|26=>259|27=>260|46=>281|47=>282|48=>283|49=>284|50=>285|57=>302|n=>n,fun|22=>186|24=>177|25=>182|3=>3|39=>299|0=>0|53=>332|55=>334|4=>4|46=>326|45=>325|50=>121|5=>5|9=>9|66=>352|70=>356|76=>383|77=>384|n=>n,fun|n=>n⟩
theorem Tryz.sortTsk:Go.Proofs.SlLaysF0.n6 prog Tryz.sortTsk_ren:=by
 constructor
 case f6=>exact⟨f165.name,by decide,func165.trans (congrArg J (by kernel_rfl))⟩
 case f14=>exact⟨f229.name,by decide,func229.trans (congrArg J (by kernel_rfl))⟩
 case f15=>exact func230.trans (congrArg J (by kernel_rfl))
 case f20=>exact⟨f253.name,by decide,func253.trans (congrArg J (by kernel_rfl))⟩
 case f21=>exact⟨f254.name,by decide,func254.trans (congrArg J (by kernel_rfl))⟩
 case f22=>exact⟨f255.name,by decide,func255.trans (congrArg J (by kernel_rfl))⟩
 case f23=>exact⟨f256.name,by decide,func256.trans (congrArg J (by kernel_rfl))⟩
 case f24=>exact⟨f257.name,by decide,func257.trans (congrArg J (by kernel_rfl))⟩
 case f25=>exact⟨f258.name,by decide,func258.trans (congrArg J (by kernel_rfl))⟩
 case f26=>exact⟨f259.name,by decide,func259.trans (congrArg J (by kernel_rfl))⟩
 case f27=>exact⟨f260.name,by decide,func260.trans (congrArg J (by kernel_rfl))⟩
 case f28=>exact func261.trans (congrArg J (by kernel_rfl))
 case f29=>exact func262.trans (congrArg J (by kernel_rfl))
 case f46=>exact⟨f281.name,by decide,func281.trans (congrArg J (by kernel_rfl))⟩
 case f47=>exact func282.trans (congrArg J (by kernel_rfl))
 case f48=>exact func283.trans (congrArg J (by kernel_rfl))
 case f49=>exact⟨f284.name,by decide,func284.trans (congrArg J (by kernel_rfl))⟩
 case f50=>exact⟨f285.name,by decide,func285.trans (congrArg J (by kernel_rfl))⟩
 case f57=>exact⟨f302.name,by decide,func302.trans (congrArg J (by kernel_rfl))⟩
 all_goals(intros;kernel_rfl)
def Tryz.layAI_ren:Go.Shelf.Ren:=⟨fun|176=>167|249=>231|288=>263|283=>286|284=>287|285=>288|286=>289|129=>262|317=>303|318=>304|319=>305|320=>306|337=>313|338=>314|n=>n,fun|37=>250|2=>2|3=>3|53=>334|4=>4|9=>9|171=>359|0=>0|173=>361|212=>387|51=>332|5=>5|20=>20|213=>388|46=>299|232=>400|233=>401|n=>n,fun|17=>3|18=>6|19=>7|n=>n⟩
theorem Tryz.layAI:Go.Proofs.LaysM.n176 prog Tryz.layAI_ren:=by
 constructor
 case' ton176=>constructor
 case f129=>exact func262.trans (congrArg J (by kernel_rfl))
 case f176=>exact func167.trans (congrArg J (by kernel_rfl))
 case f249=>exact func231.trans (congrArg J (by kernel_rfl))
 case f283=>exact func286.trans (congrArg J (by kernel_rfl))
 case f284=>exact func287.trans (congrArg J (by kernel_rfl))
 case f285=>exact func288.trans (congrArg J (by kernel_rfl))
 case f286=>exact func289.trans (congrArg J (by kernel_rfl))
 case f288=>exact func263.trans (congrArg J (by kernel_rfl))
 case f317=>exact func303.trans (congrArg J (by kernel_rfl))
 case f318=>exact func304.trans (congrArg J (by kernel_rfl))
 case f319=>exact func305.trans (congrArg J (by kernel_rfl))
 case f320=>exact func306.trans (congrArg J (by kernel_rfl))
 case f337=>exact func313.trans (congrArg J (by kernel_rfl))
 case f338=>exact func314.trans (congrArg J (by kernel_rfl))
 all_goals(intros;kernel_rfl)
def Tryz.layLI_ren:Go.Shelf.Ren:=⟨fun|149=>132|222=>204|n=>n,fun|9=>9|5=>5|3=>3|4=>4|n=>n,fun|n=>n⟩
theorem Tryz.layLI:Go.Proofs.Lays.n149 prog Tryz.layLI_ren:=by
 constructor
 case f149=>exact func132.trans (congrArg J (by kernel_rfl))
 case f222=>exact func204.trans (congrArg J (by kernel_rfl))
 all_goals(intros;kernel_rfl)
def Tryz.sortSeg_ren:Go.Shelf.Ren:=⟨fun|6=>209|15=>230|14=>246|28=>261|29=>262|20=>269|21=>270|22=>271|23=>272|24=>273|25=>274|26=>275|27=>276|46=>297|47=>282|48=>283|49=>298|50=>299|57=>312|n=>n,fun|22=>105|24=>148|25=>283|3=>3|39=>299|0=>0|53=>332|55=>334|4=>4|46=>326|45=>325|50=>121|5=>5|9=>9|66=>352|70=>356|76=>383|77=>384|n=>n,fun|n=>n⟩
theorem Tryz.sortSeg:Go.Proofs.SlLaysF0.n6 prog Tryz.sortSeg_ren:=by
 constructor
 case f6=>exact⟨f209.name,by decide,func209.trans (congrArg J (by kernel_rfl))⟩
 case f14=>exact⟨f246.name,by decide,func246.trans (congrArg J (by kernel_rfl))⟩
 case f15=>exact func230.trans (congrArg J (by kernel_rfl))
 case f20=>exact⟨f269.name,by decide,func269.trans (congrArg J (by kernel_rfl))⟩
 case f21=>exact⟨f270.name,by decide,func270.trans (congrArg J (by kernel_rfl))⟩
 case f22=>exact⟨f271.name,by decide,func271.trans (congrArg J (by kernel_rfl))⟩
 case f23=>exact⟨f272.name,by decide,func272.trans (congrArg J (by kernel_rfl))⟩
 case f24=>exact⟨f273.name,by decide,func273.trans (congrArg J (by kernel_rfl))⟩
 case f25=>exact⟨f274.name,by decide,func274.trans (congrArg J (by kernel_rfl))⟩
 case f26=>exact⟨f275.name,by decide,func275.trans (congrArg J (by kernel_rfl))⟩
 case f27=>exact⟨f276.name,by decide,func276.trans (congrArg J (by kernel_rfl))⟩
 case f28=>exact func261.trans (congrArg J (by kernel_rfl))
 case f29=>exact func262.trans (congrArg J (by kernel_rfl))
 case f46=>exact⟨f297.name,by decide,func297.trans (congrArg J (by kernel_rfl))⟩
 case f47=>exact func282.trans (congrArg J (by kernel_rfl))
 case f48=>exact func283.trans (congrArg J (by kernel_rfl))
 case f49=>exact⟨f298.name,by decide,func298.trans (congrArg J (by kernel_rfl))⟩
 case f50=>exact⟨f299.name,by decide,func299.trans (congrArg J (by kernel_rfl))⟩
 case f57=>exact⟨f312.name,by decide,func312.trans (congrArg J (by kernel_rfl))⟩
 all_goals(intros;kernel_rfl)
def Tryz.layIB_ren:Go.Shelf.Ren:=⟨fun|137=>203|217=>244|266=>268|n=>n,fun|9=>9|5=>5|3=>3|n=>n,fun|n=>n⟩
theorem Tryz.layIB:Go.Proofs.Lays.n137 prog Tryz.layIB_ren:=by
 constructor
 case f137=>exact func203.trans (congrArg J (by kernel_rfl))
 case f217=>exact func244.trans (congrArg J (by kernel_rfl))
 case f266=>exact func268.trans (congrArg J (by kernel_rfl))
 all_goals(intros;kernel_rfl)
def Tryz.layFD_ren:Go.Shelf.Ren:=⟨fun|157=>199|229=>241|199=>242|261=>265|311=>290|312=>291|n=>n,fun|9=>9|31=>275|3=>3|5=>5|4=>4|119=>309|0=>0|40=>307|152=>337|21=>21|154=>339|51=>332|141=>341|196=>366|193=>363|198=>369|49=>367|194=>364|201=>372|226=>389|46=>299|227=>390|n=>n,fun|0=>0|6=>2|n=>n⟩
theorem Tryz.layFD:Go.Proofs.Lays.n157 prog Tryz.layFD_ren:=by
 constructor
 case f157=>exact func199.trans (congrArg J (by kernel_rfl))
 case f199=>exact func242.trans (congrArg J (by kernel_rfl))
 case f229=>exact func241.trans (congrArg J (by kernel_rfl))
 case f261=>exact func265.trans (congrArg J (by kernel_rfl))
 case f311=>exact func290.trans (congrArg J (by kernel_rfl))
 case f312=>exact func291.trans (congrArg J (by kernel_rfl))
 all_goals(intros;kernel_rfl)
def Tryz.layPI_ren:Go.Shelf.Ren:=⟨fun|174=>243|247=>266|245=>267|287=>292|279=>293|280=>294|281=>295|282=>296|321=>307|322=>308|316=>309|171=>311|205=>310|243=>315|246=>316|283=>286|284=>287|285=>288|286=>289|129=>262|317=>303|318=>304|319=>305|320=>306|337=>313|338=>314|n=>n,fun|9=>9|3=>3|2=>2|75=>313|85=>314|4=>4|167=>374|5=>5|53=>334|175=>375|46=>299|168=>377|37=>250|0=>0|210=>393|21=>21|127=>396|145=>399|143=>397|171=>359|173=>361|212=>387|51=>332|20=>20|213=>388|232=>400|233=>401|80=>403|n=>n,fun|15=>4|16=>5|17=>3|18=>6|19=>7|n=>n⟩
theorem Tryz.layPI:Go.Proofs.LaysC.n174 prog Tryz.layPI_ren:=by
 constructor
 case' toM=>constructor
 case' ton174=>constructor
 case f129=>exact func262.trans (congrArg J (by kernel_rfl))
 case f171=>exact func311.trans (congrArg J (by kernel_rfl))
 case f174=>exact func243.trans (congrArg J (by kernel_rfl))
 case f205=>exact func310.trans (congrArg J (by kernel_rfl))
 case f243=>exact func315.trans (congrArg J (by kernel_rfl))
 case f245=>exact func267.trans (congrArg J (by kernel_rfl))
 case f246=>exact func316.trans (congrArg J (by kernel_rfl))
 case f247=>exact func266.trans (congrArg J (by kernel_rfl))
 case f279=>exact func293.trans (congrArg J (by kernel_rfl))
 case f280=>exact func294.trans (congrArg J (by kernel_rfl))
 case f281=>exact func295.trans (congrArg J (by kernel_rfl))
 case f282=>exact func296.trans (congrArg J (by kernel_rfl))
 case f283=>exact func286.trans (congrArg J (by kernel_rfl))
 case f284=>exact func287.trans (congrArg J (by kernel_rfl))
 case f285=>exact func288.trans (congrArg J (by kernel_rfl))
 case f286=>exact func289.trans (congrArg J (by kernel_rfl))
 case f287=>exact func292.trans (congrArg J (by kernel_rfl))
 case f316=>exact func309.trans (congrArg J (by kernel_rfl))
 case f317=>exact func303.trans (congrArg J (by kernel_rfl))
 case f318=>exact func304.trans (congrArg J (by kernel_rfl))
 case f319=>exact func305.trans (congrArg J (by kernel_rfl))
 case f320=>exact func306.trans (congrArg J (by kernel_rfl))
 case f321=>exact func307.trans (congrArg J (by kernel_rfl))
 case f322=>exact func308.trans (congrArg J (by kernel_rfl))
 case f337=>exact func313.trans (congrArg J (by kernel_rfl))
 case f338=>exact func314.trans (congrArg J (by kernel_rfl))
 all_goals(intros;kernel_rfl)
end Go.Proofs
namespace Go.Proofs.YtndhpgciopcncaaGreatDoor
section
variable {M acc a d:Nat}
theorem zah:∀(l:List UInt8) (acc:Nat) (c:UInt8),Lib.parseUintM M acc l=.ok a->48<=c.toNat->c.toNat<=57->a<1844674407370955162->a*10+(c.toNat-48)<=M->Lib.parseUintM M acc (l++[c])=.ok (a*10+(c.toNat-48))
 |[],acc,c,h,d,f,g,i=>by
  have e:acc=a:=by simpa[Lib.parseUintM]using h
  subst e;simp only[List.nil_append,Lib.parseUintM];rw[if_pos ⟨d,f⟩,if_neg (by omega),if_neg (by omega)]
 |b::l,acc,c,h,d,f,g,i=>by
  simp only[List.cons_append,Lib.parseUintM]at h ⊢;split at h
  ·rename_i hb;rw[if_pos hb];split at h
   ·cases h
   ·rename_i h5;rw[if_neg h5];split at h
    ·cases h
    ·rename_i h6;rw[if_neg h6];exact zah l _ c h d f g i
  ·cases h
end
theorem ji{k:Nat}(h:k<10):(UInt8.ofNat (48+k)).toNat=48+k:=by
 rw[UInt8.toNat_ofNat'];omega
theorem zja{M:Nat}:∀u:Nat,u<=M->u<=9223372036854775808->Lib.parseUintM M 0 (Lib.decDigits u)=.ok u:=by
 intro u;induction u using Nat.strongRecOn with
 |ind u c=>
  intro d e;rw[Lib.decDigits];split
  ·rename_i h;have:=zah (M:=M) (a:=0) [] 0 (UInt8.ofNat (48+u)) rfl (by rw[ji h];omega) (by rw[ji h];omega) (by omega) (by rw[ji h];omega);rw[List.nil_append]at this;rw[this,ji h];congr 1;omega
  ·rename_i h;have b:u%10<10:=Nat.mod_lt _ (by omega);have:=zah (M:=M) (a:=u/10) (Lib.decDigits (u/10)) 0 (UInt8.ofNat (48+u%10)) (c (u/10) (by omega) (by omega) (by omega)) (by rw[ji b];omega) (by rw[ji b];omega) (by omega) (by rw[ji b];omega);rw[this,ji b];congr 1;omega
theorem K7:∀u:Nat,∀b∈Lib.decDigits u,48<=b.toNat/\b.toNat<=57:=by
 intro u;induction u using Nat.strongRecOn with
 |ind u c=>
  intro b a;rw[Lib.decDigits]at a;split at a
  ·rename_i h;rw[List.mem_singleton]at a;rw[a,ji h];omega
  ·rename_i h;rcases List.mem_append.1 a with a|a
   ·exact c (u/10) (by omega) b a
   ·rw[List.mem_singleton]at a;rw[a,ji (Nat.mod_lt _ (by omega))];omega
theorem jC(n:Int):∀b∈Lib.itoa n,b.toNat=45\/(48<=b.toNat/\b.toNat<=57):=fun b a=>by
 unfold Lib.itoa at a;split at a
 ·rcases List.mem_cons.1 a with rfl|a
  ·exact .inl rfl
  ·exact .inr (K7 _ b a)
 ·exact .inr (K7 _ b a)
theorem zhP(u:Nat):Lib.decDigits u≠[]:=by
 rw[Lib.decDigits];split<;>simp
theorem zii(n:Int):Lib.itoa n≠[]:=by
 unfold Lib.itoa;split
 ·simp
 ·exact zhP _
theorem zlC{v:Int}(g: -9223372036854775808<=v)(i:v<=9223372036854775807):Lib.parseIntB 64 (Lib.itoa v)=.ok v:=by
 have e:(2:Nat)^64-1=18446744073709551615:=by decide
 unfold Lib.itoa;split
 ·rename_i h;unfold Lib.parseIntB;have d:=zja (M:=18446744073709551615) v.natAbs (by omega) (by omega);have a:(45:UInt8).toNat=45:=rfl;simp only[a];rw[if_pos (by simp)];unfold Lib.parseUintB;rw[if_neg (zhP _),e,d];simp only[not_true_eq_false,false_and,if_false,true_and];rw[if_neg (by omega)];congr 1;simp;omega
 ·rename_i h;have d:=zja (M:=18446744073709551615) v.toNat (by omega) (by omega);cases b:Lib.decDigits v.toNat with
  |nil=>exact absurd b (zhP _)
  |cons c r=>
   have j:=K7 v.toNat c (by rw[b];simp);unfold Lib.parseIntB;simp only;rw[if_neg (by omega)];unfold Lib.parseUintB;rw[if_neg (by simp),e,<-b,d];have f:¬c.toNat=45:=(by omega);simp only[f,not_false_eq_true,true_and,false_and,if_false];rw[if_neg (by omega)];congr 1;omega
theorem zex(n:Int):∀b∈Lib.itoa n,Lib.isSp b=false:=fun b j=>by
 have h:=jC n b j;unfold Lib.isSp;have e:∀k:Nat,k<45->(b==UInt8.ofNat k)=false:=fun k m=>by
  rw[beq_eq_false_iff_ne];intro l;have:b.toNat=k:=by rw[l,UInt8.toNat_ofNat'];omega
  omega
 have i:=e 9 (by omega);have a:=e 10 (by omega);have c:=e 11 (by omega);have d:=e 12 (by omega);have f:=e 13 (by omega);have g:=e 32 (by omega);simp only[show UInt8.ofNat 9=9 from rfl,show UInt8.ofNat 10=10 from rfl,show UInt8.ofNat 11=11 from rfl,show UInt8.ofNat 12=12 from rfl,show UInt8.ofNat 13=13 from rfl,show UInt8.ofNat 32=32 from rfl]at*;rw[i,a,c,d,f,g];rfl
theorem JG:∀(l a rest:List UInt8),(∀b∈l,Lib.isSp b=false)->Lib.fieldsGo a (l++rest)=Lib.fieldsGo (a++l) rest
 |[],a,rest,_=>by simp
 |b::l,a,rest,h=>by
  have c:=h b (by simp);rw[List.cons_append,Lib.fieldsGo,if_neg (by rw[c];simp),JG l (a++[b]) rest (fun x d=>h x (by simp[d]))];simp
theorem zek:∀(l:List Int) (a:List UInt8),a≠[]->Lib.fieldsGo a (l.flatMap (fun n=>32::Lib.itoa n)++[10])=a::l.map Lib.itoa
 |[],a,h=>by
  have b:a.isEmpty=false:=by cases a<;>simp_all
  simp[Lib.fieldsGo,Lib.isSp,b]
 |n::l,a,h=>by
  have b:a.isEmpty=false:=by cases a<;>simp_all
  rw[List.flatMap_cons,List.append_assoc,List.cons_append,Lib.fieldsGo,if_pos (by decide),b];simp only[Bool.false_eq_true,if_false];rw[JG _ _ _ (zex n),List.nil_append,zek l _ (zii n),List.map_cons]
theorem zcW(n:Int)(l:List Int):Lib.fields (Lib.itoa n++(l.flatMap (fun n=>32::Lib.itoa n)++[10]))=(n::l).map Lib.itoa:=by
 unfold Lib.fields;rw[JG _ _ _ (zex n),List.nil_append,zek l _ (zii n),List.map_cons]
end Go.Proofs.YtndhpgciopcncaaGreatDoor
