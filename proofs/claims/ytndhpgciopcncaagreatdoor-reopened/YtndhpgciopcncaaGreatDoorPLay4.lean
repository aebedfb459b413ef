import Derived.Shelf.Small.Strs
import Derived.Test.YtndhpgciopcncaaGreatDoorProg
import Derived.Shelf.Strings.Fields
import Derived.Shelf.Strconv.ParseIntPublic10
import Derived.Lib.ParseIntB
import Derived.Lib.ItoaMem
import Derived.Lib.Fields
import Derived.Test.YtndhpgciopcncaaGreatDoorRows
import Derived.Test.YtndhpgciopcncaaGreatDoorChecked
import Derived.WalkKit
import Derived.ProofKit
open Option renaming some → J
set_option linter.unusedVariables false
open Go.Proofs.Tryz
namespace Go.Proofs
open Go.Shelf
def Tryz.layIB_ren:Go.Shelf.Ren:=⟨fun|137=>203|217=>244|266=>268|n=>n,fun|9=>9|5=>5|3=>3|n=>n,fun|n=>n⟩
theorem Tryz.layIB:Go.Proofs.Lays.n137 prog Tryz.layIB_ren:={
 mixed:=by kernel_rfl
 f137:=func203.trans (congrArg J (by kernel_rfl))
 f217:=func244.trans (congrArg J (by kernel_rfl))
 f266:=func268.trans (congrArg J (by kernel_rfl))
 t3:=underlying3
 a3:=Tryz.isAgg3
 z3:=Tryz.sizeOf3
 v3:=Tryz.zeroValue3
 t5:=underlying5
 a5:=Tryz.isAgg5
 z5:=Tryz.sizeOf5
 v5:=Tryz.zeroValue5
 t9:=underlying9
 a9:=Tryz.isAgg9
 z9:=Tryz.sizeOf9
 v9:=Tryz.zeroValue9}
def Tryz.layFD_ren:Go.Shelf.Ren:=⟨fun|157=>199|229=>241|199=>242|261=>265|311=>290|312=>291|n=>n,fun|9=>9|31=>275|3=>3|5=>5|4=>4|119=>309|0=>0|40=>307|152=>337|21=>21|154=>339|51=>332|141=>341|196=>366|193=>363|198=>369|49=>367|194=>364|201=>372|226=>389|46=>299|227=>390|n=>n,fun|0=>0|6=>2|n=>n⟩
theorem Tryz.layFD:Go.Proofs.Lays.n157 prog Tryz.layFD_ren:={
 mixed:=by kernel_rfl
 f157:=func199.trans (congrArg J (by kernel_rfl))
 f199:=func242.trans (congrArg J (by kernel_rfl))
 f229:=func241.trans (congrArg J (by kernel_rfl))
 f261:=func265.trans (congrArg J (by kernel_rfl))
 f311:=func290.trans (congrArg J (by kernel_rfl))
 f312:=func291.trans (congrArg J (by kernel_rfl))
 t0:=underlying0
 a0:=Tryz.isAgg0
 z0:=Tryz.sizeOf0
 v0:=Tryz.zeroValue0
 t3:=underlying3
 a3:=Tryz.isAgg3
 z3:=Tryz.sizeOf3
 v3:=Tryz.zeroValue3
 t4:=underlying4
 a4:=Tryz.isAgg4
 z4:=Tryz.sizeOf4
 v4:=Tryz.zeroValue4
 t5:=underlying5
 a5:=Tryz.isAgg5
 z5:=Tryz.sizeOf5
 v5:=Tryz.zeroValue5
 t9:=underlying9
 a9:=Tryz.isAgg9
 z9:=Tryz.sizeOf9
 v9:=Tryz.zeroValue9
 t21:=underlying21
 a21:=Tryz.isAgg21
 z21:=Tryz.sizeOf21
 v21:=Tryz.zeroValue21
 t31:=underlying275
 a31:=Tryz.isAgg275
 z31:=Tryz.sizeOf275
 v31:=Tryz.zeroValue275
 t40:=underlying307
 a40:=Tryz.isAgg307
 z40:=Tryz.sizeOf307
 v40:=Tryz.zeroValue307
 t46:=underlying299
 a46:=Tryz.isAgg299
 z46:=Tryz.sizeOf299
 v46:=Tryz.zeroValue299
 t49:=underlying367
 a49:=Tryz.isAgg367
 z49:=Tryz.sizeOf367
 v49:=Tryz.zeroValue367
 t51:=underlying332
 a51:=Tryz.isAgg332
 z51:=Tryz.sizeOf332
 v51:=Tryz.zeroValue332
 t119:=underlying309
 a119:=Tryz.isAgg309
 z119:=Tryz.sizeOf309
 t141:=underlying341
 a141:=Tryz.isAgg341
 z141:=Tryz.sizeOf341
 v141:=Tryz.zeroValue341
 t152:=underlying337
 a152:=Tryz.isAgg337
 z152:=Tryz.sizeOf337
 v152:=Tryz.zeroValue337
 t154:=underlying339
 a154:=Tryz.isAgg339
 z154:=Tryz.sizeOf339
 v154:=Tryz.zeroValue339
 t193:=underlying363
 a193:=Tryz.isAgg363
 z193:=Tryz.sizeOf363
 v193:=Tryz.zeroValue363
 t194:=underlying364
 a194:=Tryz.isAgg364
 z194:=Tryz.sizeOf364
 v194:=Tryz.zeroValue364
 t196:=underlying366
 a196:=Tryz.isAgg366
 z196:=Tryz.sizeOf366
 v196:=Tryz.zeroValue366
 t198:=underlying369
 a198:=Tryz.isAgg369
 z198:=Tryz.sizeOf369
 v198:=Tryz.zeroValue369
 t201:=underlying372
 a201:=Tryz.isAgg372
 z201:=Tryz.sizeOf372
 v201:=Tryz.zeroValue372
 t226:=underlying389
 a226:=Tryz.isAgg389
 z226:=Tryz.sizeOf389
 v226:=Tryz.zeroValue389
 t227:=underlying390
 a227:=Tryz.isAgg390
 z227:=Tryz.sizeOf390
 v227:=Tryz.zeroValue390
 g0:=by kernel_rfl
 g6:=by kernel_rfl}
def Tryz.layPI_ren:Go.Shelf.Ren:=⟨fun|174=>243|247=>266|245=>267|287=>292|279=>293|280=>294|281=>295|282=>296|321=>307|322=>308|316=>309|171=>311|205=>310|243=>315|246=>316|283=>286|284=>287|285=>288|286=>289|129=>262|317=>303|318=>304|319=>305|320=>306|337=>313|338=>314|n=>n,fun|9=>9|3=>3|2=>2|75=>313|85=>314|4=>4|167=>374|5=>5|53=>334|175=>375|46=>299|168=>377|37=>250|0=>0|210=>393|21=>21|127=>396|145=>399|143=>397|171=>359|173=>361|212=>387|51=>332|20=>20|213=>388|232=>400|233=>401|80=>403|n=>n,fun|15=>4|16=>5|17=>3|18=>6|19=>7|n=>n⟩
theorem Tryz.layPI:Go.Proofs.LaysC.n174 prog Tryz.layPI_ren:={
 mixed:=by kernel_rfl
 f129:=func262.trans (congrArg J (by kernel_rfl))
 f171:=func311.trans (congrArg J (by kernel_rfl))
 f174:=func243.trans (congrArg J (by kernel_rfl))
 f205:=func310.trans (congrArg J (by kernel_rfl))
 f243:=func315.trans (congrArg J (by kernel_rfl))
 f245:=func267.trans (congrArg J (by kernel_rfl))
 f246:=func316.trans (congrArg J (by kernel_rfl))
 f247:=func266.trans (congrArg J (by kernel_rfl))
 f279:=func293.trans (congrArg J (by kernel_rfl))
 f280:=func294.trans (congrArg J (by kernel_rfl))
 f281:=func295.trans (congrArg J (by kernel_rfl))
 f282:=func296.trans (congrArg J (by kernel_rfl))
 f283:=func286.trans (congrArg J (by kernel_rfl))
 f284:=func287.trans (congrArg J (by kernel_rfl))
 f285:=func288.trans (congrArg J (by kernel_rfl))
 f286:=func289.trans (congrArg J (by kernel_rfl))
 f287:=func292.trans (congrArg J (by kernel_rfl))
 f316:=func309.trans (congrArg J (by kernel_rfl))
 f317:=func303.trans (congrArg J (by kernel_rfl))
 f318:=func304.trans (congrArg J (by kernel_rfl))
 f319:=func305.trans (congrArg J (by kernel_rfl))
 f320:=func306.trans (congrArg J (by kernel_rfl))
 f321:=func307.trans (congrArg J (by kernel_rfl))
 f322:=func308.trans (congrArg J (by kernel_rfl))
 f337:=func313.trans (congrArg J (by kernel_rfl))
 f338:=func314.trans (congrArg J (by kernel_rfl))
 t0:=underlying0
 a0:=Tryz.isAgg0
 z0:=Tryz.sizeOf0
 v0:=Tryz.zeroValue0
 t2:=underlying2
 a2:=Tryz.isAgg2
 z2:=Tryz.sizeOf2
 v2:=Tryz.zeroValue2
 t3:=underlying3
 a3:=Tryz.isAgg3
 z3:=Tryz.sizeOf3
 v3:=Tryz.zeroValue3
 t4:=underlying4
 a4:=Tryz.isAgg4
 z4:=Tryz.sizeOf4
 v4:=Tryz.zeroValue4
 t5:=underlying5
 a5:=Tryz.isAgg5
 z5:=Tryz.sizeOf5
 v5:=Tryz.zeroValue5
 t9:=underlying9
 a9:=Tryz.isAgg9
 z9:=Tryz.sizeOf9
 v9:=Tryz.zeroValue9
 t20:=underlying20
 a20:=Tryz.isAgg20
 z20:=Tryz.sizeOf20
 v20:=Tryz.zeroValue20
 t21:=underlying21
 a21:=Tryz.isAgg21
 z21:=Tryz.sizeOf21
 v21:=Tryz.zeroValue21
 t37:=underlying250
 a37:=Tryz.isAgg250
 z37:=Tryz.sizeOf250
 v37:=Tryz.zeroValue250
 t46:=underlying299
 a46:=Tryz.isAgg299
 z46:=Tryz.sizeOf299
 v46:=Tryz.zeroValue299
 t51:=underlying332
 a51:=Tryz.isAgg332
 z51:=Tryz.sizeOf332
 v51:=Tryz.zeroValue332
 t53:=underlying334
 a53:=Tryz.isAgg334
 z53:=Tryz.sizeOf334
 v53:=Tryz.zeroValue334
 t75:=underlying313
 a75:=Tryz.isAgg313
 z75:=Tryz.sizeOf313
 v75:=Tryz.zeroValue313
 t85:=underlying314
 a85:=Tryz.isAgg314
 z85:=Tryz.sizeOf314
 v85:=Tryz.zeroValue314
 t127:=underlying396
 a127:=Tryz.isAgg396
 z127:=Tryz.sizeOf396
 v127:=Tryz.zeroValue396
 t143:=underlying397
 a143:=Tryz.isAgg397
 z143:=Tryz.sizeOf397
 v143:=Tryz.zeroValue397
 t145:=underlying399
 a145:=Tryz.isAgg399
 z145:=Tryz.sizeOf399
 v145:=Tryz.zeroValue399
 t167:=underlying374
 a167:=Tryz.isAgg374
 z167:=Tryz.sizeOf374
 v167:=Tryz.zeroValue374
 t168:=underlying377
 a168:=Tryz.isAgg377
 z168:=Tryz.sizeOf377
 v168:=Tryz.zeroValue377
 t171:=underlying359
 a171:=Tryz.isAgg359
 z171:=Tryz.sizeOf359
 v171:=Tryz.zeroValue359
 t173:=underlying361
 a173:=Tryz.isAgg361
 z173:=Tryz.sizeOf361
 v173:=Tryz.zeroValue361
 t175:=underlying375
 a175:=Tryz.isAgg375
 z175:=Tryz.sizeOf375
 v175:=Tryz.zeroValue375
 t210:=underlying393
 a210:=Tryz.isAgg393
 z210:=Tryz.sizeOf393
 v210:=Tryz.zeroValue393
 t212:=underlying387
 a212:=Tryz.isAgg387
 z212:=Tryz.sizeOf387
 v212:=Tryz.zeroValue387
 t213:=underlying388
 a213:=Tryz.isAgg388
 z213:=Tryz.sizeOf388
 t232:=underlying400
 a232:=Tryz.isAgg400
 z232:=Tryz.sizeOf400
 v232:=Tryz.zeroValue400
 t233:=underlying401
 a233:=Tryz.isAgg401
 z233:=Tryz.sizeOf401
 v233:=Tryz.zeroValue401
 g15:=by kernel_rfl
 g16:=by kernel_rfl
 g17:=by kernel_rfl
 g18:=by kernel_rfl
 g19:=by kernel_rfl
 t80:=underlying403
 a80:=Tryz.isAgg403
 z80:=Tryz.sizeOf403
 v80:=Tryz.zeroValue403
 i0:=by kernel_rfl
 i2:=by kernel_rfl
 i3:=by kernel_rfl
 i4:=by kernel_rfl
 i5:=by kernel_rfl
 i9:=by kernel_rfl
 i20:=by kernel_rfl
 i21:=by kernel_rfl
 i37:=by kernel_rfl
 i46:=by kernel_rfl
 i51:=by kernel_rfl
 i53:=by kernel_rfl
 i75:=by kernel_rfl
 i80:=by kernel_rfl
 i85:=by kernel_rfl
 i127:=by kernel_rfl
 i143:=by kernel_rfl
 i145:=by kernel_rfl
 i167:=by kernel_rfl
 i168:=by kernel_rfl
 i171:=by kernel_rfl
 i173:=by kernel_rfl
 i175:=by kernel_rfl
 i210:=by kernel_rfl
 i212:=by kernel_rfl
 i232:=by kernel_rfl
 i233:=by kernel_rfl
 m15:=by kernel_rfl
 m16:=by kernel_rfl
 m17:=by kernel_rfl
 m18:=by kernel_rfl
 m19:=by kernel_rfl
 c0:=by kernel_rfl
 c2:=by kernel_rfl
 c3:=by kernel_rfl
 c4:=by kernel_rfl
 c5:=by kernel_rfl
 c9:=by kernel_rfl
 c20:=by kernel_rfl
 c21:=by kernel_rfl
 c37:=by kernel_rfl
 c46:=by kernel_rfl
 c51:=by kernel_rfl
 c53:=by kernel_rfl
 c75:=by kernel_rfl
 c80:=by kernel_rfl
 c85:=by kernel_rfl
 c127:=by kernel_rfl
 c143:=by kernel_rfl
 c145:=by kernel_rfl
 c167:=by kernel_rfl
 c168:=by kernel_rfl
 c171:=by kernel_rfl
 c173:=by kernel_rfl
 c175:=by kernel_rfl
 c210:=by kernel_rfl
 c212:=by kernel_rfl
 c213:=by kernel_rfl
 c232:=by kernel_rfl
 c233:=by kernel_rfl}
end Go.Proofs
namespace Go.Proofs.YtndhpgciopcncaaGreatDoor
section
variable {M acc a d:Nat}
theorem JH:∀(l:List UInt8) (acc:Nat) (c:UInt8),Lib.parseUintM M acc l=.ok a->48<=c.toNat->c.toNat<=57->a<1844674407370955162->a*10+(c.toNat-48)<=M->Lib.parseUintM M acc (l++[c])=.ok (a*10+(c.toNat-48))
 |[],acc,c,h,d,f,g,i=>by
  have e:acc=a:=by simpa[Lib.parseUintM]using h
  subst e
  simp only[List.nil_append,Lib.parseUintM]
  rw[if_pos ⟨d,f⟩,if_neg (by omega),if_neg (by omega)]
 |b::l,acc,c,h,d,f,g,i=>by
  simp only[List.cons_append,Lib.parseUintM]at h ⊢
  split at h
  ·rename_i hb
   rw[if_pos hb]
   split at h
   ·cases h
   ·rename_i h5
    rw[if_neg h5]
    split at h
    ·cases h
    ·rename_i h6
     rw[if_neg h6]
     exact JH l _ c h d f g i
  ·cases h
end
theorem vO{k:Nat}(h:k<10):(UInt8.ofNat (48+k)).toNat=48+k:=by
 rw[UInt8.toNat_ofNat'];omega
theorem ziR{M:Nat}:∀u:Nat,u<=M->u<=9223372036854775808->Lib.parseUintM M 0 (Lib.decDigits u)=.ok u:=by
 intro u
 induction u using Nat.strongRecOn with
 |ind u c=>
  intro d e
  rw[Lib.decDigits]
  split
  ·rename_i h
   have:=JH (M:=M) (a:=0) [] 0 (UInt8.ofNat (48+u)) rfl (by rw[vO h];omega) (by rw[vO h];omega) (by omega) (by rw[vO h];omega)
   rw[List.nil_append]at this
   rw[this,vO h]
   congr 1;omega
  ·rename_i h
   have b:u%10<10:=Nat.mod_lt _ (by omega)
   have:=JH (M:=M) (a:=u/10) (Lib.decDigits (u/10)) 0 (UInt8.ofNat (48+u%10)) (c (u/10) (by omega) (by omega) (by omega)) (by rw[vO b];omega) (by rw[vO b];omega) (by omega) (by rw[vO b];omega)
   rw[this,vO b]
   congr 1;omega
theorem YN:∀u:Nat,∀b∈Lib.decDigits u,48<=b.toNat/\b.toNat<=57:=by
 intro u
 induction u using Nat.strongRecOn with
 |ind u c=>
  intro b a
  rw[Lib.decDigits]at a
  split at a
  ·rename_i h
   rw[List.mem_singleton]at a
   rw[a,vO h];omega
  ·rename_i h
   rcases List.mem_append.1 a with a|a
   ·exact c (u/10) (by omega) b a
   ·rw[List.mem_singleton]at a
    rw[a,vO (Nat.mod_lt _ (by omega))];omega
theorem jh(n:Int):∀b∈Lib.itoa n,b.toNat=45\/(48<=b.toNat/\b.toNat<=57):=fun b a=>by
 unfold Lib.itoa at a
 split at a
 ·rcases List.mem_cons.1 a with rfl|a
  ·exact .inl rfl
  ·exact .inr (YN _ b a)
 ·exact .inr (YN _ b a)
theorem zhE(u:Nat):Lib.decDigits u≠[]:=by
 rw[Lib.decDigits];split<;>simp
theorem zhX(n:Int):Lib.itoa n≠[]:=by
 unfold Lib.itoa;split
 ·simp
 ·exact zhE _
theorem zlv{v:Int}(g: -9223372036854775808<=v)(i:v<=9223372036854775807):Lib.parseIntB 64 (Lib.itoa v)=.ok v:=by
 have e:(2:Nat)^64-1=18446744073709551615:=by decide
 unfold Lib.itoa
 split
 ·rename_i h
  unfold Lib.parseIntB
  have d:=ziR (M:=18446744073709551615) v.natAbs (by omega) (by omega)
  have a:(45:UInt8).toNat=45:=rfl
  simp only[a]
  rw[if_pos (by simp)]
  unfold Lib.parseUintB
  rw[if_neg (zhE _),e,d]
  simp only[not_true_eq_false,false_and,if_false,true_and]
  rw[if_neg (by omega)]
  congr 1
  simp;omega
 ·rename_i h
  have d:=ziR (M:=18446744073709551615) v.toNat (by omega) (by omega)
  cases b:Lib.decDigits v.toNat with
  |nil=>exact absurd b (zhE _)
  |cons c r=>
   have j:=YN v.toNat c (by rw[b];simp)
   unfold Lib.parseIntB
   simp only
   rw[if_neg (by omega)]
   unfold Lib.parseUintB
   rw[if_neg (by simp),e,<-b,d]
   have f:¬c.toNat=45:=by omega
   simp only[f,not_false_eq_true,true_and,false_and,if_false]
   rw[if_neg (by omega)]
   congr 1;omega
theorem zdV(n:Int):∀b∈Lib.itoa n,Lib.isSp b=false:=fun b j=>by
 have h:=jh n b j
 unfold Lib.isSp
 have e:∀k:Nat,k<45->(b==UInt8.ofNat k)=false:=fun k m=>by
  rw[beq_eq_false_iff_ne]
  intro l
  have:b.toNat=k:=by rw[l,UInt8.toNat_ofNat'];omega
  omega
 have i:=e 9 (by omega);have a:=e 10 (by omega);have c:=e 11 (by omega);have d:=e 12 (by omega);have f:=e 13 (by omega);have g:=e 32 (by omega)
 simp only[show UInt8.ofNat 9=9 from rfl,show UInt8.ofNat 10=10 from rfl,show UInt8.ofNat 11=11 from rfl,show UInt8.ofNat 12=12 from rfl,show UInt8.ofNat 13=13 from rfl,show UInt8.ofNat 32=32 from rfl]at*
 rw[i,a,c,d,f,g];rfl
theorem Jf:∀(l a rest:List UInt8),(∀b∈l,Lib.isSp b=false)->Lib.fieldsGo a (l++rest)=Lib.fieldsGo (a++l) rest
 |[],a,rest,_=>by simp
 |b::l,a,rest,h=>by
  have c:=h b (by simp)
  rw[List.cons_append,Lib.fieldsGo,if_neg (by rw[c];simp),Jf l (a++[b]) rest (fun x d=>h x (by simp[d]))]
  simp
theorem zdJ:∀(l:List Int) (a:List UInt8),a≠[]->Lib.fieldsGo a (l.flatMap (fun n=>32::Lib.itoa n)++[10])=a::l.map Lib.itoa
 |[],a,h=>by
  have b:a.isEmpty=false:=by cases a<;>simp_all
  simp[Lib.fieldsGo,Lib.isSp,b]
 |n::l,a,h=>by
  have b:a.isEmpty=false:=by cases a<;>simp_all
  rw[List.flatMap_cons,List.append_assoc,List.cons_append,Lib.fieldsGo,if_pos (by decide),b]
  simp only[Bool.false_eq_true,if_false]
  rw[Jf _ _ _ (zdV n),List.nil_append,zdJ l _ (zhX n),List.map_cons]
theorem zcq(n:Int)(l:List Int):Lib.fields (Lib.itoa n++(l.flatMap (fun n=>32::Lib.itoa n)++[10]))=(n::l).map Lib.itoa:=by
 unfold Lib.fields
 rw[Jf _ _ _ (zdV n),List.nil_append,zdJ l _ (zhX n),List.map_cons]
end Go.Proofs.YtndhpgciopcncaaGreatDoor
namespace Go.Proofs.YtndhpgciopcncaaGreatDoor
open Go.ChangeShapes Go.WideShapes Go.ChangeAt Go.RowKit
set_option maxRecDepth 100000
theorem zfV:(Rows.reopenedRow.inPlace==Tryz.pinned.checked.prog.inPlace 9)=true:=by kernel_rfl
theorem zfW:(Rows.reopenedRow.unfollowed==Tryz.pinned.checked.prog.unfollowed 9)=true:=by kernel_rfl
theorem zfX:(Rows.reopenedRow.recurses==Tryz.pinned.checked.prog.recurses 9)=true:=by kernel_rfl
theorem zfY:(Rows.reopenedRow.named==Tryz.pinned.checked.prog.varsNamed 9)=true:=by kernel_rfl
theorem KV:joinedFacts Tryz.pinned.checked.prog 9 Tryz.f9 Rows.reopenedSpec Rows.reopenedRow=true:=by
 simp only[joinedFacts,Bool.and_eq_true]
 repeat' apply And.intro
 all_goals first|with_reducible exact zfV|with_reducible exact zfW|with_reducible exact zfX|with_reducible exact zfY|kernel_rfl
end Go.Proofs.YtndhpgciopcncaaGreatDoor
