import Derived.Shelf.SlGeneric
import Derived.Ground.NamesProg
import Derived.Ground.SlgfProg
import Derived.Shelf.Strings.Search3
import Derived.Shelf.Strings.Prefix
import Derived.Shelf.Strconv.ParseIntPublic10
import Derived.Shelf.SlicesQ.IndexFunc
import Derived.Stop.Asserts
import Derived.KernelRfl
import Derived.Shelf.Strconv.Itoa3
import Derived.Ground.SlsfProg
import Derived.Shelf.SlSortCmp.WholeK
import Derived.Shelf.Sort.Plain
import Derived.LaidEql
import Derived.RowKitTokens
import Derived.Test.YtnghccjoicmabaaGreatDoorPx1J
set_option maxRecDepth 100000
set_option maxHeartbeats 16000000
open Go renaming Calls->Adg,TypeId->Ad5,Value->X,World->Q
open Go.Ending renaming returned->F
open Go.IntKind renaming i64->C
open Go.Proofs.Tryz renaming prog->Acs,underlying34->Ae0
open Go.Value renaming agg->T,bool->A,iface->Z,int->V,pointer->J,slice->W,string->S,tuple->R
namespace Go.Proofs.YtnghccjoicmabaaGreatDoor
open Go.Shelf
def Tryz.ez:Go.Shelf.Ren:=⟨fun|144=>73|143=>110|219=>142|217=>183|225=>184|224=>185|267=>186|266=>205|314=>206|n=>n,fun|9=>9|4=>4|3=>3|5=>5|46=>227|146=>332|51=>145|n=>n,fun|1=>19|n=>n⟩
theorem Tryz.eh:Go.Proofs.Lays.n144 Acs Tryz.ez:={
 mixed:=by kernel_rfl
 f143:=Tryz.func110.trans (congrArg some (by kernel_rfl))
 f144:=Tryz.func73.trans (congrArg some (by kernel_rfl))
 f217:=Tryz.func183.trans (congrArg some (by kernel_rfl))
 f219:=Tryz.func142.trans (congrArg some (by kernel_rfl))
 f224:=Tryz.func185.trans (congrArg some (by kernel_rfl))
 f225:=Tryz.func184.trans (congrArg some (by kernel_rfl))
 f266:=Tryz.func205.trans (congrArg some (by kernel_rfl))
 f267:=Tryz.func186.trans (congrArg some (by kernel_rfl))
 f314:=Tryz.func206.trans (congrArg some (by kernel_rfl))
 t3:=Tryz.underlying3
 a3:=Tryz.isAgg3
 z3:=Tryz.sizeOf3
 v3:=Tryz.zeroValue3
 t4:=Tryz.underlying4
 a4:=Tryz.isAgg4
 z4:=Tryz.sizeOf4
 v4:=Tryz.zeroValue4
 t5:=Tryz.underlying5
 a5:=Tryz.isAgg5
 z5:=Tryz.sizeOf5
 v5:=Tryz.zeroValue5
 t9:=Tryz.underlying9
 a9:=Tryz.isAgg9
 z9:=Tryz.sizeOf9
 v9:=Tryz.zeroValue9
 t46:=Tryz.underlying227
 a46:=Tryz.isAgg227
 z46:=Tryz.sizeOf227
 v46:=Tryz.zeroValue227
 t51:=Tryz.underlying145
 a51:=Tryz.isAgg145
 z51:=Tryz.sizeOf145
 v51:=Tryz.zeroValue145
 t146:=Tryz.underlying332
 a146:=Tryz.isAgg332
 z146:=Tryz.sizeOf332
 v146:=Tryz.zeroValue332
 g1:=by kernel_rfl}
def Tryz.eu:Go.Shelf.Ren:=⟨fun|101=>196|208=>215|206=>227|n=>n,fun|9=>9|4=>4|3=>3|n=>n,fun|n=>n⟩
theorem Tryz.fc:Go.Proofs.Lays.n101 Acs Tryz.eu:={
 mixed:=by kernel_rfl
 f101:=Tryz.func196.trans (congrArg some (by kernel_rfl))
 f206:=Tryz.func227.trans (congrArg some (by kernel_rfl))
 f208:=Tryz.func215.trans (congrArg some (by kernel_rfl))
 t3:=Tryz.underlying3
 a3:=Tryz.isAgg3
 z3:=Tryz.sizeOf3
 v3:=Tryz.zeroValue3
 t4:=Tryz.underlying4
 a4:=Tryz.isAgg4
 z4:=Tryz.sizeOf4
 v4:=Tryz.zeroValue4
 t9:=Tryz.underlying9
 a9:=Tryz.isAgg9
 z9:=Tryz.sizeOf9
 v9:=Tryz.zeroValue9}
def Tryz.en:Go.Shelf.Ren:=⟨fun|174=>197|247=>216|245=>217|287=>228|279=>229|280=>230|281=>231|282=>232|321=>237|322=>238|316=>70|171=>221|205=>239|243=>236|246=>241|283=>242|284=>243|285=>244|286=>245|129=>134|317=>246|318=>247|319=>248|320=>249|337=>250|338=>251|n=>n,fun|9=>9|3=>3|2=>2|75=>74|85=>317|4=>4|167=>352|5=>5|53=>202|175=>353|46=>227|168=>355|37=>141|0=>0|210=>362|21=>21|127=>228|145=>368|143=>366|171=>369|173=>371|212=>374|51=>145|20=>20|213=>375|232=>377|233=>378|80=>130|n=>n,fun|15=>21|16=>22|17=>23|18=>24|19=>25|n=>n⟩
theorem Tryz.eo:Go.Proofs.LaysC.n174 Acs Tryz.en:={
 mixed:=by kernel_rfl
 f129:=Tryz.func134.trans (congrArg some (by kernel_rfl))
 f171:=Tryz.func221.trans (congrArg some (by kernel_rfl))
 f174:=Tryz.func197.trans (congrArg some (by kernel_rfl))
 f205:=Tryz.func239.trans (congrArg some (by kernel_rfl))
 f243:=Tryz.func236.trans (congrArg some (by kernel_rfl))
 f245:=Tryz.func217.trans (congrArg some (by kernel_rfl))
 f246:=Tryz.func241.trans (congrArg some (by kernel_rfl))
 f247:=Tryz.func216.trans (congrArg some (by kernel_rfl))
 f279:=Tryz.func229.trans (congrArg some (by kernel_rfl))
 f280:=Tryz.func230.trans (congrArg some (by kernel_rfl))
 f281:=Tryz.func231.trans (congrArg some (by kernel_rfl))
 f282:=Tryz.func232.trans (congrArg some (by kernel_rfl))
 f283:=Tryz.func242.trans (congrArg some (by kernel_rfl))
 f284:=Tryz.func243.trans (congrArg some (by kernel_rfl))
 f285:=Tryz.func244.trans (congrArg some (by kernel_rfl))
 f286:=Tryz.func245.trans (congrArg some (by kernel_rfl))
 f287:=Tryz.func228.trans (congrArg some (by kernel_rfl))
 f316:=Tryz.func70.trans (congrArg some (by kernel_rfl))
 f317:=Tryz.func246.trans (congrArg some (by kernel_rfl))
 f318:=Tryz.func247.trans (congrArg some (by kernel_rfl))
 f319:=Tryz.func248.trans (congrArg some (by kernel_rfl))
 f320:=Tryz.func249.trans (congrArg some (by kernel_rfl))
 f321:=Tryz.func237.trans (congrArg some (by kernel_rfl))
 f322:=Tryz.func238.trans (congrArg some (by kernel_rfl))
 f337:=Tryz.func250.trans (congrArg some (by kernel_rfl))
 f338:=Tryz.func251.trans (congrArg some (by kernel_rfl))
 t0:=Tryz.underlying0
 a0:=Tryz.isAgg0
 z0:=Tryz.sizeOf0
 v0:=Tryz.zeroValue0
 t2:=Tryz.underlying2
 a2:=Tryz.isAgg2
 z2:=Tryz.sizeOf2
 v2:=Tryz.zeroValue2
 t3:=Tryz.underlying3
 a3:=Tryz.isAgg3
 z3:=Tryz.sizeOf3
 v3:=Tryz.zeroValue3
 t4:=Tryz.underlying4
 a4:=Tryz.isAgg4
 z4:=Tryz.sizeOf4
 v4:=Tryz.zeroValue4
 t5:=Tryz.underlying5
 a5:=Tryz.isAgg5
 z5:=Tryz.sizeOf5
 v5:=Tryz.zeroValue5
 t9:=Tryz.underlying9
 a9:=Tryz.isAgg9
 z9:=Tryz.sizeOf9
 v9:=Tryz.zeroValue9
 t20:=Tryz.underlying20
 a20:=Tryz.isAgg20
 z20:=Tryz.sizeOf20
 v20:=Tryz.zeroValue20
 t21:=Tryz.underlying21
 a21:=Tryz.isAgg21
 z21:=Tryz.sizeOf21
 v21:=Tryz.zeroValue21
 t37:=Tryz.underlying141
 a37:=Tryz.isAgg141
 z37:=Tryz.sizeOf141
 v37:=Tryz.zeroValue141
 t46:=Tryz.underlying227
 a46:=Tryz.isAgg227
 z46:=Tryz.sizeOf227
 v46:=Tryz.zeroValue227
 t51:=Tryz.underlying145
 a51:=Tryz.isAgg145
 z51:=Tryz.sizeOf145
 v51:=Tryz.zeroValue145
 t53:=Tryz.underlying202
 a53:=Tryz.isAgg202
 z53:=Tryz.sizeOf202
 v53:=Tryz.zeroValue202
 t75:=Tryz.underlying74
 a75:=Tryz.isAgg74
 z75:=Tryz.sizeOf74
 v75:=Tryz.zeroValue74
 t85:=Tryz.underlying317
 a85:=Tryz.isAgg317
 z85:=Tryz.sizeOf317
 v85:=Tryz.zeroValue317
 t127:=Tryz.underlying228
 a127:=Tryz.isAgg228
 z127:=Tryz.sizeOf228
 v127:=Tryz.zeroValue228
 t143:=Tryz.underlying366
 a143:=Tryz.isAgg366
 z143:=Tryz.sizeOf366
 v143:=Tryz.zeroValue366
 t145:=Tryz.underlying368
 a145:=Tryz.isAgg368
 z145:=Tryz.sizeOf368
 v145:=Tryz.zeroValue368
 t167:=Tryz.underlying352
 a167:=Tryz.isAgg352
 z167:=Tryz.sizeOf352
 v167:=Tryz.zeroValue352
 t168:=Tryz.underlying355
 a168:=Tryz.isAgg355
 z168:=Tryz.sizeOf355
 v168:=Tryz.zeroValue355
 t171:=Tryz.underlying369
 a171:=Tryz.isAgg369
 z171:=Tryz.sizeOf369
 v171:=Tryz.zeroValue369
 t173:=Tryz.underlying371
 a173:=Tryz.isAgg371
 z173:=Tryz.sizeOf371
 v173:=Tryz.zeroValue371
 t175:=Tryz.underlying353
 a175:=Tryz.isAgg353
 z175:=Tryz.sizeOf353
 v175:=Tryz.zeroValue353
 t210:=Tryz.underlying362
 a210:=Tryz.isAgg362
 z210:=Tryz.sizeOf362
 v210:=Tryz.zeroValue362
 t212:=Tryz.underlying374
 a212:=Tryz.isAgg374
 z212:=Tryz.sizeOf374
 v212:=Tryz.zeroValue374
 t213:=Tryz.underlying375
 a213:=Tryz.isAgg375
 z213:=Tryz.sizeOf375
 t232:=Tryz.underlying377
 a232:=Tryz.isAgg377
 z232:=Tryz.sizeOf377
 v232:=Tryz.zeroValue377
 t233:=Tryz.underlying378
 a233:=Tryz.isAgg378
 z233:=Tryz.sizeOf378
 v233:=Tryz.zeroValue378
 g15:=by kernel_rfl
 g16:=by kernel_rfl
 g17:=by kernel_rfl
 g18:=by kernel_rfl
 g19:=by kernel_rfl
 t80:=Tryz.underlying130
 a80:=Tryz.isAgg130
 z80:=Tryz.sizeOf130
 v80:=Tryz.zeroValue130
 i0:=by kernel_rfl
 i2:=by kernel_rfl
 i3:=by kernel_rfl
 i4:=by kernel_rfl
 i5:=by kernel_rfl
 i9:=by kernel_rfl
 i20:=by kernel_rfl
 i21:=by kernel_rfl
 i37:=by kernel_rfl
 i46:=by kernel_rfl
 i51:=by kernel_rfl
 i53:=by kernel_rfl
 i75:=by kernel_rfl
 i80:=by kernel_rfl
 i85:=by kernel_rfl
 i127:=by kernel_rfl
 i143:=by kernel_rfl
 i145:=by kernel_rfl
 i167:=by kernel_rfl
 i168:=by kernel_rfl
 i171:=by kernel_rfl
 i173:=by kernel_rfl
 i175:=by kernel_rfl
 i210:=by kernel_rfl
 i212:=by kernel_rfl
 i232:=by kernel_rfl
 i233:=by kernel_rfl
 m15:=by kernel_rfl
 m16:=by kernel_rfl
 m17:=by kernel_rfl
 m18:=by kernel_rfl
 m19:=by kernel_rfl
 c0:=by kernel_rfl
 c2:=by kernel_rfl
 c3:=by kernel_rfl
 c4:=by kernel_rfl
 c5:=by kernel_rfl
 c9:=by kernel_rfl
 c20:=by kernel_rfl
 c21:=by kernel_rfl
 c37:=by kernel_rfl
 c46:=by kernel_rfl
 c51:=by kernel_rfl
 c53:=by kernel_rfl
 c75:=by kernel_rfl
 c80:=by kernel_rfl
 c85:=by kernel_rfl
 c127:=by kernel_rfl
 c143:=by kernel_rfl
 c145:=by kernel_rfl
 c167:=by kernel_rfl
 c168:=by kernel_rfl
 c171:=by kernel_rfl
 c173:=by kernel_rfl
 c175:=by kernel_rfl
 c210:=by kernel_rfl
 c212:=by kernel_rfl
 c213:=by kernel_rfl
 c232:=by kernel_rfl
 c233:=by kernel_rfl}
def Tryz.eC:Go.Shelf.Ren:=⟨fun|8=>119|6=>168|n=>n,fun|22=>100|23=>115|25=>252|4=>4|3=>3|0=>0|n=>n,fun|n=>n⟩
theorem Tryz.fi:Go.Proofs.SlLaysH0.n8 Acs Tryz.eC:={
 mixed:=by kernel_rfl
 f6:=⟨Tryz.f168.name,by decide,Tryz.func168.trans (congrArg some (by kernel_rfl))⟩
 f8:=⟨Tryz.f119.name,by decide,Tryz.func119.trans (congrArg some (by kernel_rfl))⟩
 t0:=Tryz.underlying0
 a0:=Tryz.isAgg0
 z0:=Tryz.sizeOf0
 v0:=Tryz.zeroValue0
 t3:=Tryz.underlying3
 a3:=Tryz.isAgg3
 z3:=Tryz.sizeOf3
 v3:=Tryz.zeroValue3
 t4:=Tryz.underlying4
 a4:=Tryz.isAgg4
 z4:=Tryz.sizeOf4
 v4:=Tryz.zeroValue4
 t22:=Tryz.underlying100
 a22:=Tryz.isAgg100
 z22:=Tryz.sizeOf100
 v22:=Tryz.zeroValue100
 t25:=Tryz.underlying252
 a25:=Tryz.isAgg252
 z25:=Tryz.sizeOf252
 v25:=Tryz.zeroValue252}
end Go.Proofs.YtnghccjoicmabaaGreatDoor
namespace Go.Proofs.YtnghccjoicmabaaGreatDoor
variable{wp:Program}{M:TypeId}{sk:Array Field}{m:Value}
theorem A9{T:Ad5}(d:wp.underlying M=some (.struct sk))(a:(wp.info? M).map (·.zero)=some (some m))(c:T≠M)(f:X)(g:Ad5)(b:Q):Sem.run wp (Instr.typeAssert (Z T f) g M true) b=.ok (R #[m,A false]) b:=by
 let ⟨h,a,e⟩:=Adb.1 a
 simp[Instr.typeAssert,run_underlying d,c,zeroValue,typeInfo,a,e]
theorem Ek{P:Program}(c:P.underlying M=some (.struct sk))(b:X)(d:Ad5)(a:Q):Sem.run P (Instr.typeAssert (Z M b) d M true) a=.ok (R #[b,A true]) a:=by
 simp[Instr.typeAssert,run_underlying c]
theorem Oa:(Acs.info? 295).map (·.zero)=some (some (T #[V C 0])):=by kernel_rfl
theorem Ft:(Acs.info? 115).map (·.zero)=some (some (T #[S ⟨#[]⟩,V C 0])):=by kernel_rfl
theorem Jp:(Acs.info? 277).map (·.zero)=some (some (T #[.nilIface,W none 0 0])):=by kernel_rfl
theorem GC:(Acs.info? 233).map (·.zero)=some (some (T #[A false,W none 0 0,W none 0 0,.nilIface])):=by kernel_rfl
theorem Yj:(Acs.info? 304).map (·.zero)=some (some (T #[V C 0,W none 0 0])):=by kernel_rfl
theorem I9:(Acs.info? 237).map (·.zero)=some (some (T #[.nilIface,W none 0 0])):=by kernel_rfl
theorem YW:(Acs.info? 275).map (·.zero)=some (some (T #[V C 0,.nilIface,.nilIface])):=by kernel_rfl
end Go.Proofs.YtnghccjoicmabaaGreatDoor
namespace Go.Proofs.YtnghccjoicmabaaGreatDoor
open Go.Shelf
def Tryz.em:Go.Shelf.Ren:=⟨fun|171=>221|243=>236|246=>241|283=>242|284=>243|285=>244|286=>245|129=>134|317=>246|318=>247|319=>248|320=>249|337=>250|338=>251|n=>n,fun|3=>3|9=>9|2=>2|4=>4|171=>369|0=>0|53=>202|37=>141|5=>5|173=>371|212=>374|51=>145|20=>20|213=>375|46=>227|232=>377|233=>378|n=>n,fun|17=>23|18=>24|19=>25|n=>n⟩
theorem Tryz.eZ:Go.Proofs.LaysM.n171 Acs Tryz.em:={
 mixed:=by kernel_rfl
 f129:=Tryz.func134.trans (congrArg some (by kernel_rfl))
 f171:=Tryz.func221.trans (congrArg some (by kernel_rfl))
 f243:=Tryz.func236.trans (congrArg some (by kernel_rfl))
 f246:=Tryz.func241.trans (congrArg some (by kernel_rfl))
 f283:=Tryz.func242.trans (congrArg some (by kernel_rfl))
 f284:=Tryz.func243.trans (congrArg some (by kernel_rfl))
 f285:=Tryz.func244.trans (congrArg some (by kernel_rfl))
 f286:=Tryz.func245.trans (congrArg some (by kernel_rfl))
 f317:=Tryz.func246.trans (congrArg some (by kernel_rfl))
 f318:=Tryz.func247.trans (congrArg some (by kernel_rfl))
 f319:=Tryz.func248.trans (congrArg some (by kernel_rfl))
 f320:=Tryz.func249.trans (congrArg some (by kernel_rfl))
 f337:=Tryz.func250.trans (congrArg some (by kernel_rfl))
 f338:=Tryz.func251.trans (congrArg some (by kernel_rfl))
 t0:=Tryz.underlying0
 a0:=Tryz.isAgg0
 z0:=Tryz.sizeOf0
 v0:=Tryz.zeroValue0
 t2:=Tryz.underlying2
 a2:=Tryz.isAgg2
 z2:=Tryz.sizeOf2
 v2:=Tryz.zeroValue2
 t3:=Tryz.underlying3
 a3:=Tryz.isAgg3
 z3:=Tryz.sizeOf3
 v3:=Tryz.zeroValue3
 t4:=Tryz.underlying4
 a4:=Tryz.isAgg4
 z4:=Tryz.sizeOf4
 v4:=Tryz.zeroValue4
 t5:=Tryz.underlying5
 a5:=Tryz.isAgg5
 z5:=Tryz.sizeOf5
 v5:=Tryz.zeroValue5
 t9:=Tryz.underlying9
 a9:=Tryz.isAgg9
 z9:=Tryz.sizeOf9
 v9:=Tryz.zeroValue9
 t20:=Tryz.underlying20
 a20:=Tryz.isAgg20
 z20:=Tryz.sizeOf20
 v20:=Tryz.zeroValue20
 t37:=Tryz.underlying141
 a37:=Tryz.isAgg141
 z37:=Tryz.sizeOf141
 v37:=Tryz.zeroValue141
 t46:=Tryz.underlying227
 a46:=Tryz.isAgg227
 z46:=Tryz.sizeOf227
 v46:=Tryz.zeroValue227
 t51:=Tryz.underlying145
 a51:=Tryz.isAgg145
 z51:=Tryz.sizeOf145
 v51:=Tryz.zeroValue145
 t53:=Tryz.underlying202
 a53:=Tryz.isAgg202
 z53:=Tryz.sizeOf202
 v53:=Tryz.zeroValue202
 t171:=Tryz.underlying369
 a171:=Tryz.isAgg369
 z171:=Tryz.sizeOf369
 v171:=Tryz.zeroValue369
 t173:=Tryz.underlying371
 a173:=Tryz.isAgg371
 z173:=Tryz.sizeOf371
 v173:=Tryz.zeroValue371
 t212:=Tryz.underlying374
 a212:=Tryz.isAgg374
 z212:=Tryz.sizeOf374
 v212:=Tryz.zeroValue374
 t213:=Tryz.underlying375
 a213:=Tryz.isAgg375
 z213:=Tryz.sizeOf375
 t232:=Tryz.underlying377
 a232:=Tryz.isAgg377
 z232:=Tryz.sizeOf377
 v232:=Tryz.zeroValue377
 t233:=Tryz.underlying378
 a233:=Tryz.isAgg378
 z233:=Tryz.sizeOf378
 v233:=Tryz.zeroValue378
 g17:=by kernel_rfl
 g18:=by kernel_rfl
 g19:=by kernel_rfl
 i0:=by kernel_rfl
 i2:=by kernel_rfl
 i3:=by kernel_rfl
 i4:=by kernel_rfl
 i5:=by kernel_rfl
 i9:=by kernel_rfl
 i20:=by kernel_rfl
 i37:=by kernel_rfl
 i46:=by kernel_rfl
 i51:=by kernel_rfl
 i53:=by kernel_rfl
 i171:=by kernel_rfl
 i173:=by kernel_rfl
 i212:=by kernel_rfl
 i232:=by kernel_rfl
 i233:=by kernel_rfl
 m17:=by kernel_rfl
 m18:=by kernel_rfl
 m19:=by kernel_rfl}
theorem Up(a:Int)(d:-9223372036854775808<=a)(e:a<=9223372036854775807)(b:Q)(f:Lib.TabIs Acs b "internal/strconv.uint64pow10" .u64 Lib.pow10Tab):
 Adg Acs 221 #[V C a] b λc i=>c=F (S ⟨(Lib.itoa a).toArray⟩)/\∃g h,i=Sort.grow (b.drewN g) h:=Any.strconv_Itoa Tryz.eZ a d e b f
def Tryz.eF:Go.Shelf.Ren:=⟨fun|190=>77|125=>102|258=>112|128=>133|129=>134|302=>151|303=>152|304=>153|305=>154|306=>155|307=>156|308=>157|309=>158|310=>159|333=>190|329=>173|330=>174|334=>191|335=>192|336=>193|344=>208|n=>n,fun|31=>34|9=>9|3=>3|46=>227|0=>0|51=>145|53=>202|4=>4|183=>265|182=>264|131=>194|5=>5|218=>296|222=>300|228=>319|229=>131|n=>n,fun|n=>n⟩
theorem Tryz.fq:Go.Proofs.Lays.n190 Acs Tryz.eF:={
 mixed:=by kernel_rfl
 f125:=Tryz.func102.trans (congrArg some (by kernel_rfl))
 f128:=Tryz.func133.trans (congrArg some (by kernel_rfl))
 f129:=Tryz.func134.trans (congrArg some (by kernel_rfl))
 f190:=Tryz.func77.trans (congrArg some (by kernel_rfl))
 f258:=Tryz.func112.trans (congrArg some (by kernel_rfl))
 f302:=Tryz.func151.trans (congrArg some (by kernel_rfl))
 f303:=Tryz.func152.trans (congrArg some (by kernel_rfl))
 f304:=Tryz.func153.trans (congrArg some (by kernel_rfl))
 f305:=Tryz.func154.trans (congrArg some (by kernel_rfl))
 f306:=Tryz.func155.trans (congrArg some (by kernel_rfl))
 f307:=Tryz.func156.trans (congrArg some (by kernel_rfl))
 f308:=Tryz.func157.trans (congrArg some (by kernel_rfl))
 f309:=Tryz.func158.trans (congrArg some (by kernel_rfl))
 f310:=Tryz.func159.trans (congrArg some (by kernel_rfl))
 f329:=Tryz.func173.trans (congrArg some (by kernel_rfl))
 f330:=Tryz.func174.trans (congrArg some (by kernel_rfl))
 f333:=Tryz.func190.trans (congrArg some (by kernel_rfl))
 f334:=Tryz.func191.trans (congrArg some (by kernel_rfl))
 f335:=Tryz.func192.trans (congrArg some (by kernel_rfl))
 f336:=Tryz.func193.trans (congrArg some (by kernel_rfl))
 f344:=Tryz.func208.trans (congrArg some (by kernel_rfl))
 t0:=Tryz.underlying0
 a0:=Tryz.isAgg0
 z0:=Tryz.sizeOf0
 v0:=Tryz.zeroValue0
 t3:=Tryz.underlying3
 a3:=Tryz.isAgg3
 z3:=Tryz.sizeOf3
 v3:=Tryz.zeroValue3
 t4:=Tryz.underlying4
 a4:=Tryz.isAgg4
 z4:=Tryz.sizeOf4
 v4:=Tryz.zeroValue4
 t5:=Tryz.underlying5
 a5:=Tryz.isAgg5
 z5:=Tryz.sizeOf5
 v5:=Tryz.zeroValue5
 t9:=Tryz.underlying9
 a9:=Tryz.isAgg9
 z9:=Tryz.sizeOf9
 v9:=Tryz.zeroValue9
 t31:=Ae0
 a31:=Tryz.isAgg34
 z31:=Tryz.sizeOf34
 v31:=Tryz.zeroValue34
 t46:=Tryz.underlying227
 a46:=Tryz.isAgg227
 z46:=Tryz.sizeOf227
 v46:=Tryz.zeroValue227
 t51:=Tryz.underlying145
 a51:=Tryz.isAgg145
 z51:=Tryz.sizeOf145
 v51:=Tryz.zeroValue145
 t53:=Tryz.underlying202
 a53:=Tryz.isAgg202
 z53:=Tryz.sizeOf202
 v53:=Tryz.zeroValue202
 t131:=Tryz.underlying194
 a131:=Tryz.isAgg194
 z131:=Tryz.sizeOf194
 v131:=Tryz.zeroValue194
 t182:=Tryz.underlying264
 a182:=Tryz.isAgg264
 z182:=Tryz.sizeOf264
 v182:=Tryz.zeroValue264
 t183:=Tryz.underlying265
 a183:=Tryz.isAgg265
 z183:=Tryz.sizeOf265
 v183:=Tryz.zeroValue265
 t218:=Tryz.underlying296
 a218:=Tryz.isAgg296
 z218:=Tryz.sizeOf296
 v218:=Tryz.zeroValue296
 t222:=Tryz.underlying300
 a222:=Tryz.isAgg300
 z222:=Tryz.sizeOf300
 v222:=Tryz.zeroValue300
 t228:=Tryz.underlying319
 a228:=Tryz.isAgg319
 z228:=Tryz.sizeOf319
 v228:=Tryz.zeroValue319
 t229:=Tryz.underlying131
 a229:=Tryz.isAgg131
 z229:=Tryz.sizeOf131
 v229:=Tryz.zeroValue131}
def Tryz.eG:Go.Shelf.Ren:=⟨fun|6=>67|15=>102|14=>101|28=>133|29=>134|20=>125|21=>126|22=>127|23=>128|24=>129|25=>130|26=>131|27=>132|46=>172|47=>173|48=>174|49=>175|50=>176|57=>198|n=>n,fun|22=>36|24=>55|25=>180|3=>3|39=>227|0=>0|53=>145|55=>202|4=>4|46=>265|45=>264|50=>194|5=>5|9=>9|66=>296|70=>300|76=>319|77=>131|n=>n,fun|n=>n⟩
theorem Tryz.eT:Go.Proofs.SlLaysF0.n6 Acs Tryz.eG:={
 mixed:=by kernel_rfl
 f6:=⟨Tryz.f67.name,by decide,Tryz.func67.trans (congrArg some (by kernel_rfl))⟩
 f14:=⟨Tryz.f101.name,by decide,Tryz.func101.trans (congrArg some (by kernel_rfl))⟩
 f15:=Tryz.func102.trans (congrArg some (by kernel_rfl))
 f20:=⟨Tryz.f125.name,by decide,Tryz.func125.trans (congrArg some (by kernel_rfl))⟩
 f21:=⟨Tryz.f126.name,by decide,Tryz.func126.trans (congrArg some (by kernel_rfl))⟩
 f22:=⟨Tryz.f127.name,by decide,Tryz.func127.trans (congrArg some (by kernel_rfl))⟩
 f23:=⟨Tryz.f128.name,by decide,Tryz.func128.trans (congrArg some (by kernel_rfl))⟩
 f24:=⟨Tryz.f129.name,by decide,Tryz.func129.trans (congrArg some (by kernel_rfl))⟩
 f25:=⟨Tryz.f130.name,by decide,Tryz.func130.trans (congrArg some (by kernel_rfl))⟩
 f26:=⟨Tryz.f131.name,by decide,Tryz.func131.trans (congrArg some (by kernel_rfl))⟩
 f27:=⟨Tryz.f132.name,by decide,Tryz.func132.trans (congrArg some (by kernel_rfl))⟩
 f28:=Tryz.func133.trans (congrArg some (by kernel_rfl))
 f29:=Tryz.func134.trans (congrArg some (by kernel_rfl))
 f46:=⟨Tryz.f172.name,by decide,Tryz.func172.trans (congrArg some (by kernel_rfl))⟩
 f47:=Tryz.func173.trans (congrArg some (by kernel_rfl))
 f48:=Tryz.func174.trans (congrArg some (by kernel_rfl))
 f49:=⟨Tryz.f175.name,by decide,Tryz.func175.trans (congrArg some (by kernel_rfl))⟩
 f50:=⟨Tryz.f176.name,by decide,Tryz.func176.trans (congrArg some (by kernel_rfl))⟩
 f57:=⟨Tryz.f198.name,by decide,Tryz.func198.trans (congrArg some (by kernel_rfl))⟩
 t0:=Tryz.underlying0
 a0:=Tryz.isAgg0
 z0:=Tryz.sizeOf0
 v0:=Tryz.zeroValue0
 t3:=Tryz.underlying3
 a3:=Tryz.isAgg3
 z3:=Tryz.sizeOf3
 v3:=Tryz.zeroValue3
 t4:=Tryz.underlying4
 a4:=Tryz.isAgg4
 z4:=Tryz.sizeOf4
 v4:=Tryz.zeroValue4
 t5:=Tryz.underlying5
 a5:=Tryz.isAgg5
 z5:=Tryz.sizeOf5
 v5:=Tryz.zeroValue5
 t9:=Tryz.underlying9
 a9:=Tryz.isAgg9
 z9:=Tryz.sizeOf9
 v9:=Tryz.zeroValue9
 t22:=Tryz.underlying36
 a22:=Tryz.isAgg36
 z22:=Tryz.sizeOf36
 v22:=Tryz.zeroValue36
 t25:=Tryz.underlying180
 a25:=Tryz.isAgg180
 z25:=Tryz.sizeOf180
 v25:=Tryz.zeroValue180
 t39:=Tryz.underlying227
 a39:=Tryz.isAgg227
 z39:=Tryz.sizeOf227
 v39:=Tryz.zeroValue227
 t45:=Tryz.underlying264
 a45:=Tryz.isAgg264
 z45:=Tryz.sizeOf264
 v45:=Tryz.zeroValue264
 t46:=Tryz.underlying265
 a46:=Tryz.isAgg265
 z46:=Tryz.sizeOf265
 v46:=Tryz.zeroValue265
 t50:=Tryz.underlying194
 a50:=Tryz.isAgg194
 z50:=Tryz.sizeOf194
 v50:=Tryz.zeroValue194
 t53:=Tryz.underlying145
 a53:=Tryz.isAgg145
 z53:=Tryz.sizeOf145
 v53:=Tryz.zeroValue145
 t55:=Tryz.underlying202
 a55:=Tryz.isAgg202
 z55:=Tryz.sizeOf202
 v55:=Tryz.zeroValue202
 t66:=Tryz.underlying296
 a66:=Tryz.isAgg296
 z66:=Tryz.sizeOf296
 v66:=Tryz.zeroValue296
 t70:=Tryz.underlying300
 a70:=Tryz.isAgg300
 z70:=Tryz.sizeOf300
 v70:=Tryz.zeroValue300
 t76:=Tryz.underlying319
 a76:=Tryz.isAgg319
 z76:=Tryz.sizeOf319
 v76:=Tryz.zeroValue319
 t77:=Tryz.underlying131
 a77:=Tryz.isAgg131
 z77:=Tryz.sizeOf131
 v77:=Tryz.zeroValue131}
def Tryz.eE:Go.Shelf.Ren:=⟨fun|6=>74|15=>102|14=>111|28=>133|29=>134|20=>143|21=>144|22=>145|23=>146|24=>147|25=>148|26=>149|27=>150|46=>187|47=>173|48=>174|49=>188|50=>189|57=>207|n=>n,fun|22=>37|24=>59|25=>190|3=>3|39=>227|0=>0|53=>145|55=>202|4=>4|46=>265|45=>264|50=>194|5=>5|9=>9|66=>296|70=>300|76=>319|77=>131|n=>n,fun|n=>n⟩
theorem Tryz.eS:Go.Proofs.SlLaysF0.n6 Acs Tryz.eE:={
 mixed:=by kernel_rfl
 f6:=⟨Tryz.f74.name,by decide,Tryz.func74.trans (congrArg some (by kernel_rfl))⟩
 f14:=⟨Tryz.f111.name,by decide,Tryz.func111.trans (congrArg some (by kernel_rfl))⟩
 f15:=Tryz.func102.trans (congrArg some (by kernel_rfl))
 f20:=⟨Tryz.f143.name,by decide,Tryz.func143.trans (congrArg some (by kernel_rfl))⟩
 f21:=⟨Tryz.f144.name,by decide,Tryz.func144.trans (congrArg some (by kernel_rfl))⟩
 f22:=⟨Tryz.f145.name,by decide,Tryz.func145.trans (congrArg some (by kernel_rfl))⟩
 f23:=⟨Tryz.f146.name,by decide,Tryz.func146.trans (congrArg some (by kernel_rfl))⟩
 f24:=⟨Tryz.f147.name,by decide,Tryz.func147.trans (congrArg some (by kernel_rfl))⟩
 f25:=⟨Tryz.f148.name,by decide,Tryz.func148.trans (congrArg some (by kernel_rfl))⟩
 f26:=⟨Tryz.f149.name,by decide,Tryz.func149.trans (congrArg some (by kernel_rfl))⟩
 f27:=⟨Tryz.f150.name,by decide,Tryz.func150.trans (congrArg some (by kernel_rfl))⟩
 f28:=Tryz.func133.trans (congrArg some (by kernel_rfl))
 f29:=Tryz.func134.trans (congrArg some (by kernel_rfl))
 f46:=⟨Tryz.f187.name,by decide,Tryz.func187.trans (congrArg some (by kernel_rfl))⟩
 f47:=Tryz.func173.trans (congrArg some (by kernel_rfl))
 f48:=Tryz.func174.trans (congrArg some (by kernel_rfl))
 f49:=⟨Tryz.f188.name,by decide,Tryz.func188.trans (congrArg some (by kernel_rfl))⟩
 f50:=⟨Tryz.f189.name,by decide,Tryz.func189.trans (congrArg some (by kernel_rfl))⟩
 f57:=⟨Tryz.f207.name,by decide,Tryz.func207.trans (congrArg some (by kernel_rfl))⟩
 t0:=Tryz.underlying0
 a0:=Tryz.isAgg0
 z0:=Tryz.sizeOf0
 v0:=Tryz.zeroValue0
 t3:=Tryz.underlying3
 a3:=Tryz.isAgg3
 z3:=Tryz.sizeOf3
 v3:=Tryz.zeroValue3
 t4:=Tryz.underlying4
 a4:=Tryz.isAgg4
 z4:=Tryz.sizeOf4
 v4:=Tryz.zeroValue4
 t5:=Tryz.underlying5
 a5:=Tryz.isAgg5
 z5:=Tryz.sizeOf5
 v5:=Tryz.zeroValue5
 t9:=Tryz.underlying9
 a9:=Tryz.isAgg9
 z9:=Tryz.sizeOf9
 v9:=Tryz.zeroValue9
 t22:=Tryz.underlying37
 a22:=Tryz.isAgg37
 z22:=Tryz.sizeOf37
 v22:=Tryz.zeroValue37
 t25:=Tryz.underlying190
 a25:=Tryz.isAgg190
 z25:=Tryz.sizeOf190
 v25:=Tryz.zeroValue190
 t39:=Tryz.underlying227
 a39:=Tryz.isAgg227
 z39:=Tryz.sizeOf227
 v39:=Tryz.zeroValue227
 t45:=Tryz.underlying264
 a45:=Tryz.isAgg264
 z45:=Tryz.sizeOf264
 v45:=Tryz.zeroValue264
 t46:=Tryz.underlying265
 a46:=Tryz.isAgg265
 z46:=Tryz.sizeOf265
 v46:=Tryz.zeroValue265
 t50:=Tryz.underlying194
 a50:=Tryz.isAgg194
 z50:=Tryz.sizeOf194
 v50:=Tryz.zeroValue194
 t53:=Tryz.underlying145
 a53:=Tryz.isAgg145
 z53:=Tryz.sizeOf145
 v53:=Tryz.zeroValue145
 t55:=Tryz.underlying202
 a55:=Tryz.isAgg202
 z55:=Tryz.sizeOf202
 v55:=Tryz.zeroValue202
 t66:=Tryz.underlying296
 a66:=Tryz.isAgg296
 z66:=Tryz.sizeOf296
 v66:=Tryz.zeroValue296
 t70:=Tryz.underlying300
 a70:=Tryz.isAgg300
 z70:=Tryz.sizeOf300
 v70:=Tryz.zeroValue300
 t76:=Tryz.underlying319
 a76:=Tryz.isAgg319
 z76:=Tryz.sizeOf319
 v76:=Tryz.zeroValue319
 t77:=Tryz.underlying131
 a77:=Tryz.isAgg131
 z77:=Tryz.sizeOf131
 v77:=Tryz.zeroValue131}
end Go.Proofs.YtnghccjoicmabaaGreatDoor
namespace Go.Proofs.YtnghccjoicmabaaGreatDoor
open Go.RowKit Go.Extern.Stop Go.Stop Go.Extern
theorem Tryz.eB(b:X)(a:Q):(callFunc 61 #[Z 366 b]).run Acs a=.ok (.value (Z 210 (T #[J (some ⟨26,366,none⟩)]))) a:=by kernel_rfl
theorem Tryz.dX(a:Q):(callFunc 277 #[T #[J (some ⟨26,366,none⟩)]]).run Acs a=.ok (.value (A true)) a:=by kernel_rfl
theorem Tryz.dE(a:X)(b:Q):(Go.method 507 210 a "Comparable").run Acs b=.ok (277,a) b:=by kernel_rfl
theorem Tryz.eR:(Acs.info? 366).map (·.comparable)=some true:=by kernel_rfl
theorem Tryz.eV:(Acs.info? 368).map (·.size)=some 1:=by kernel_rfl
theorem Tryz.fW(b:X)(c:Ad5)(a:Q):(Instr.typeAssert (Z 366 b) c 212 true).run Acs a=.ok (R #[.nilIface,A false]) a:=run_typeAssert_lacksB Tryz.underlying212 (by kernel_rfl) (by kernel_rfl) b c a
theorem Tryz.eK(b:X)(c:Ad5)(a:Q):(Instr.typeAssert (Z 366 b) c 215 true).run Acs a=.ok (R #[.nilIface,A false]) a:=run_typeAssert_lacksB Tryz.underlying215 (by kernel_rfl) (by kernel_rfl) b c a
theorem Tryz.eH(b:X)(c:Ad5)(a:Q):(Instr.typeAssert (Z 366 b) c 217 true).run Acs a=.ok (R #[.nilIface,A false]) a:=run_typeAssert_lacksB Tryz.underlying217 (by kernel_rfl) (by kernel_rfl) b c a
theorem Tryz.e9(b:X)(c:Ad5)(a:Q):(Instr.typeAssert (Z 107 b) c 212 true).run Acs a=.ok (R #[.nilIface,A false]) a:=run_typeAssert_lacksB Tryz.underlying212 (by kernel_rfl) (by kernel_rfl) b c a
theorem Tryz.eb(a:X)(c:Ad5)(b:Q):(Instr.typeAssert (Z 107 a) c 215 true).run Acs b=.ok (R #[Z 107 a,A true]) b:=run_typeAssert_hasB Tryz.underlying215 (by kernel_rfl) a c b
theorem Tryz.dQ(a:X)(b:Q):(Go.method 507 107 a "Unwrap").run Acs b=.ok (270,a) b:=by kernel_rfl
theorem Js(a:X)(b c:Int)(d:Q):
 Adg Acs 270 #[T #[a,V C b,V C c]] d λe f=>e=F a/\f=d.alloc (.cells #[a,V C b,V C c] 107):=by
 go_wp2;go_ret;simp
theorem KZ(b:Addr)(h i:Int)(a:Q):
 Adg Acs 29 #[Z 107 (T #[Z 366 (J (some b)),V C h,V C i]),Z 366 (J (some b))] a λc d=>c=F (A true)/\Below a.heap.size a d:=by
 let ⟨n,f,e⟩:=Adb.1 Tryz.eR
 let ⟨o,g,l⟩:=Adb.1 Tryz.eV
 have s:=Tryz.eB;have cT:=Tryz.dX;have p:=Tryz.dE;have r:=Tryz.e9;have t:=Tryz.eb;have q:=Tryz.dQ;have k:=λa=>run_eql_iface_ptr_same a b Tryz.underlying74 Tryz.underlying366 f e g;have m:=λj=>run_eql_iface_types 107 366 j (J (some b)) Tryz.underlying74 nofun a;go_enter Tryz.func29,Tryz.ntmps29;go_wp2;refine wp_loop_rounds 2 ?_;rw[rounds_succ];go_wp2_with (first|go_in|(go_at_call 270;refine(Js _ _ _ _).mono ?_;rintro c d ⟨rfl,rfl⟩))
 rw[rounds_succ];go_wp2;go_ret;exact⟨rfl,bA⟩
theorem YK(c:X)(a:Q):
 Adg Acs 30 #[.nilIface,c] a λb d=>b=F (A false)/\d=a:=by
 go_wp2;go_ret;simp
theorem Tryz.vP(b:Addr)(a:Q):(ReflectliteValue.unpack (Z 109 (J (some b)))).run Acs a
 =.ok (T #[J (some ⟨26,109,none⟩),J (some ⟨a.heap.size,0,none⟩),V .u64 150]) (a.alloc (.cells #[J (some b)] 109)):=by kernel_rfl
theorem Tryz.tP(b:Addr)(a:Q):(ReflectliteValue.methodAny (ReflectliteValue.valueError "reflectlite.Value.Type" 0) (λc _ _ _=>ReflectliteType.toType c) #[T #[J (some ⟨26,109,none⟩),J (some b),V .u64 150]]).run Acs a
 =.ok (Z 210 (T #[J (some ⟨26,109,none⟩)])) a:=rfl
theorem Tryz.f6(a:X)(b:Q):(Go.method 507 210 (T #[a]) "Kind").run Acs b=.ok (266,a) b:=by kernel_rfl
theorem Tryz.kP(a:Q):((ReflectliteType.abiMethod λc=>(λb:Nat=>Value.int IntKind.u8 (b:Int))<$>Rtype.kind c) #[J (some ⟨26,109,none⟩)]).run Acs a=.ok (V .u8 22) a:=by kernel_rfl
theorem Tryz.kF(a:Q):((ReflectliteType.abiMethod λc=>(λb:Nat=>Value.int IntKind.u8 (b:Int))<$>Rtype.kind c) #[J (some ⟨26,107,none⟩)]).run Acs a=.ok (V .u8 25) a:=by kernel_rfl
theorem Ui(d:Sem X)(b:Ad5->Addr->Nat->Nat->Sem X)(c:X):
 ReflectliteValue.method d b #[c]=(do match <-ReflectliteValue.parts c with|none=>d|some (t,a,fl)=>b t a fl (fl % 32)):=rfl
theorem Tryz.gB(a:Addr)(b:Q):(ReflectliteValue.parts (T #[J (some ⟨26,109,none⟩),J (some a),V .u64 150])).run Acs b=.ok (some (109,a,150)) b:=by kernel_rfl
theorem Tryz.gm(b d:Addr)(a:Q)(c:a.cell? b=some (J (some d))):
 (ReflectliteValue.method (ReflectliteValue.valueError "reflectlite.Value.IsNil" 0) ReflectliteValue.isNil #[T #[J (some ⟨26,109,none⟩),J (some b),V .u64 150]]).run Acs a=.ok (A false) a:=by
 rw[Ui];simp[Sem.run_bind,Tryz.gB,Result.andThen];simp[ReflectliteValue.isNil,loadVar,isAgg,underlying,Tryz.underlying109,c,Result.andThen]
theorem Tryz.ga(a:X)(b:Q):(Go.method 507 210 (T #[a]) "Elem").run Acs b=.ok (278,T #[a]) b:=by kernel_rfl
theorem Tryz.fO(a:X)(b:Q):(Go.method 507 210 (T #[a]) "Implements").run Acs b=.ok (279,T #[a]) b:=by kernel_rfl
theorem Tryz.e6(a:X)(b:Q):(Go.method 507 210 (T #[a]) "AssignableTo").run Acs b=.ok (276,T #[a]) b:=by kernel_rfl
theorem Tryz.g4(a:Q):(ReflectliteType.method ReflectliteType.elem #[T #[J (some ⟨26,109,none⟩)]]).run Acs a=.ok (Z 210 (T #[J (some ⟨26,107,none⟩)])) a:=by kernel_rfl
theorem Tryz.g1(a:Q):(ReflectliteType.relation "Implements" ReflectliteType.implements_ #[T #[J (some ⟨26,107,none⟩)],Z 210 (T #[J (some ⟨26,74,none⟩)])]).run Acs a=.ok (A true) a:=by kernel_rfl
theorem Tryz.hm(b:X)(a:Q):(ReflectliteType.typeOf #[Z 107 b]).run Acs a=.ok (Z 210 (T #[J (some ⟨26,107,none⟩)])) a:=rfl
theorem Tryz.ho(a:Q):(ReflectliteType.relation "AssignableTo" ReflectliteType.assignableTo #[T #[J (some ⟨26,107,none⟩)],Z 210 (T #[J (some ⟨26,107,none⟩)])]).run Acs a=.ok (A true) a:=by kernel_rfl
theorem Tryz.vF(b c d:X)(a:Q):(ReflectliteValue.unpack (Z 107 (T #[b,c,d]))).run Acs a
 =.ok (T #[J (some ⟨26,107,none⟩),J (some ⟨a.heap.size,0,none⟩),V .u64 153]) (a.alloc (.cells #[b,c,d] 107)):=by kernel_rfl
theorem Tryz.hh(a:Q):(Rtype.elem? 109).run Acs a=.ok (some 107) a:=by kernel_rfl
theorem Tryz.g2(a:Addr)(b:Q):(ReflectliteValue.mk 107 a ReflectliteValue.flagAddr).run Acs b=.ok (T #[J (some ⟨26,107,none⟩),J (some a),V .u64 409]) b:=by kernel_rfl
theorem Tryz.g5(b c:Addr)(a:Q)(d:a.cell? b=some (J (some c))):
 (ReflectliteValue.method (ReflectliteValue.valueError "reflectlite.Value.Elem" 0) ReflectliteValue.elem #[T #[J (some ⟨26,109,none⟩),J (some b),V .u64 150]]).run Acs a
  =.ok (T #[J (some ⟨26,107,none⟩),J (some c),V .u64 409]) a:=by
 rw[Ui];simp[Sem.run_bind,Tryz.gB,Result.andThen];simp[ReflectliteValue.elem,loadVar,isAgg,underlying,Tryz.underlying109,d,Result.andThen,Tryz.hh,Tryz.g2]
theorem Tryz.gt(a:Addr)(b:Q):(ReflectliteValue.parts (T #[J (some ⟨26,107,none⟩),J (some a),V .u64 409])).run Acs b=.ok (some (107,a,409)) b:=by kernel_rfl
theorem Tryz.hr(a:Addr)(b:Q):(ReflectliteValue.parts (T #[J (some ⟨26,107,none⟩),J (some a),V .u64 153])).run Acs b=.ok (some (107,a,153)) b:=by kernel_rfl
theorem Tryz.hp(a:Q):(Rtype.directlyAssignable 107 107).run Acs a=.ok true a:=rfl
theorem rls(c d:X):ReflectliteValue.set #[c,d]=(do
 let (some (dst,a,fl),some (src,b,_)):=(<-ReflectliteValue.parts c,<-ReflectliteValue.parts d)
  |unsupported (.noEntry "extern/(internal/reflectlite.Value).Set.zeroValue")
 if fl / ReflectliteValue.flagAddr % 2==0 then unsupported (.noEntry "extern/(internal/reflectlite.Value).Set.unaddressable")
 let val <-loadVar src b
 if <-Rtype.directlyAssignable dst src then storeVar dst a val
 else if <-Rtype.implements dst src then
  if (<-Rtype.kind src)==20 then
   match val with
   |.nilIface=>unsupported (.noEntry "extern/reflectlite: a nil value of one interface type handed on as a value of another")
   |_=>storeVar dst a val
  else storeVar dst a (Z src val)
 else panicString ("reflectlite.Set: value of type "++(<-Rtype.spelt src)++ " is not assignable to type "++(<-Rtype.spelt dst))
 pure (R #[])):=rfl
theorem Tryz.gG(a e:Nat)(d f g p h i:X)(b:Q)(m:b.cell? ⟨e,0,none⟩=some d)(n:b.cell? ⟨e,1,none⟩=some f)(o:b.cell? ⟨e,2,none⟩=some g)(t:b.cell? ⟨a,0,none⟩=some p)(u:b.cell? ⟨a,1,none⟩=some h)(w:b.cell? ⟨a,2,none⟩=some i)(j:b.frozen? ⟨a,0,none⟩=false)(k:b.frozen? ⟨a,1,none⟩=false)(l:b.frozen? ⟨a,2,none⟩=false)(q:d.oneCell'=true)(r:f.oneCell'=true)(s:g.oneCell'=true):
 (ReflectliteValue.set #[T #[J (some ⟨26,107,none⟩),J (some ⟨a,0,none⟩),V .u64 409],T #[J (some ⟨26,107,none⟩),J (some ⟨e,0,none⟩),V .u64 153]]).run Acs b
  =.ok (R #[]) (((b.setCell ⟨a,0,none⟩ d).setCell ⟨a,1,none⟩ f).setCell ⟨a,2,none⟩ g):=by
 rw[rls];simp only[Sem.run_bind,Tryz.gt,Tryz.hr,Result.andThen];simp[ReflectliteValue.flagAddr,loadVar,Tryz.hp,Result.andThen];simp[loadCells,loadCellsFrom,Addr.add,m,n,o,storeVar,Value.cells,storeCells,Result.andThen];have v:(b.setCell ⟨a,0,none⟩ d).cell? ⟨a,1,none⟩=some h:=by rw[Acy _ _ _ _ (by intro c;have:=congrArg Addr.off c;simp at this)];exact u
 have x:((b.setCell ⟨a,0,none⟩ d).setCell ⟨a,1,none⟩ f).cell? ⟨a,2,none⟩=some i:=by rw[Acy _ _ _ _ (by intro c;have:=congrArg Addr.off c;simp at this),Acy _ _ _ _ (by intro c;have:=congrArg Addr.off c;simp at this)];exact w
 rw[run_store Acs b ⟨a,0,none⟩ _ _ q];simp[t,j];rw[run_store Acs _ ⟨a,1,none⟩ _ _ r];simp[v,k];rw[run_store Acs _ ⟨a,2,none⟩ _ _ s];simp[x,l]
def VJ(a:Q)(b:Addr):Q:=((a.alloc (.cells #[J (some b)] 109)).alloc (.cells #[J (some ⟨26,109,none⟩),J (some ⟨a.heap.size,0,none⟩),V .u64 150] 171)).alloc (.cells #[J (some ⟨26,109,none⟩),J (some ⟨a.heap.size,0,none⟩),V .u64 150] 171)
theorem Zt(d:X)(e f:Int)(b:Nat)(l m n:X)(a:Q)(u:a.cell? ⟨18,0,none⟩=some (Z 210 (T #[J (some ⟨26,74,none⟩)])))(o:a.cell? ⟨b,0,none⟩=some l)(w:a.cell? ⟨b,1,none⟩=some m)(x:a.cell? ⟨b,2,none⟩=some n)(r:a.frozen? ⟨b,0,none⟩=false)(s:a.frozen? ⟨b,1,none⟩=false)(t:a.frozen? ⟨b,2,none⟩=false)(v:d.oneCell'=true):
 Adg Acs 30 #[Z 107 (T #[d,V C e,V C f]),Z 109 (J (some ⟨b,0,none⟩))] a λq y=>q=F (A true)/\y=((((VJ a ⟨b,0,none⟩).alloc (.cells #[d,V C e,V C f] 107)).setCell ⟨b,0,none⟩ d).setCell ⟨b,1,none⟩ (V C e)).setCell ⟨b,2,none⟩ (V C f):=by
 have U:=@run_callFunc_extern Acs 63 _ (λp=>ReflectliteValue.unpack (p.getD 0 (R #[]))) Tryz.func63 rfl rfl rfl (by kernel_rfl);have Y:=@run_callFunc_extern Acs 64 _ (ReflectliteValue.methodAny (ReflectliteValue.valueError "reflectlite.Value.Type" 0) (λj _ _ _=>ReflectliteType.toType j)) Tryz.func64 rfl rfl rfl (by kernel_rfl);have aa:=@run_callFunc_extern Acs 65 _ (ReflectliteValue.method (ReflectliteValue.valueError "reflectlite.Value.IsNil" 0) ReflectliteValue.isNil) Tryz.func65 rfl rfl rfl (by kernel_rfl);have L:=@run_callFunc_extern Acs 266 _ (ReflectliteType.abiMethod λj=>do pure (V .u8 (<-Rtype.kind j))) Tryz.func266 rfl rfl rfl (by rfl);have N:=@run_callFunc_extern Acs 278 _ (ReflectliteType.method ReflectliteType.elem) Tryz.func278 rfl rfl rfl (by rfl);have O:=@run_callFunc_extern Acs 279 _ (ReflectliteType.relation "Implements" ReflectliteType.implements_) Tryz.func279 rfl rfl rfl (by kernel_rfl);have H:=@run_callFunc_extern Acs 61 _ ReflectliteType.typeOf Tryz.func61 rfl rfl (by rfl) (by kernel_rfl);have M:=@run_callFunc_extern Acs 276 _ (ReflectliteType.relation "AssignableTo" ReflectliteType.assignableTo) Tryz.func276 rfl rfl rfl (by kernel_rfl);have I:=@run_callFunc_extern Acs 99 _ (ReflectliteValue.method (ReflectliteValue.valueError "reflectlite.Value.Elem" 0) ReflectliteValue.elem) Tryz.func99 rfl rfl rfl (by kernel_rfl);have K:=@run_callFunc_extern Acs 100 _ ReflectliteValue.set Tryz.func100 rfl rfl rfl (by kernel_rfl);have al:=Tryz.hm;have af:=Tryz.e6;have z:=Tryz.ho;have am:=Tryz.vF;have E:=Tryz.vP;have G:=Tryz.tP;have ai:=Tryz.f6;have ag:=Tryz.ga;have ah:=Tryz.fO;have ae:=Tryz.kP;have ad:=Tryz.kF;have B:=Tryz.g4;have ac:=Tryz.g1;have aj:=Tryz.gm ⟨a.heap.size,0,none⟩ ⟨b,0,none⟩ ((a.alloc (.cells #[J (some ⟨b,0,none⟩)] 109)).alloc (.cells #[J (some ⟨26,109,none⟩),J (some ⟨a.heap.size,0,none⟩),V .u64 150] 171)) (by simp);have h:Below a.heap.size a (VJ a ⟨b,0,none⟩):=(bA.alloc (by simp) _).alloc (by simp;omega) _;have k:Below a.heap.size a ((a.alloc (.cells #[J (some ⟨b,0,none⟩)] 109)).alloc (.cells #[J (some ⟨26,109,none⟩),J (some ⟨a.heap.size,0,none⟩),V .u64 150] 171)):=bA.alloc (by simp) _;have c:Below a.heap.size a ((VJ a ⟨b,0,none⟩).alloc (.cells #[d,V C e,V C f] 107)):=h.alloc h.size _;have ab:=Aa k u;have i:b<a.heap.size:=Adt o;have D:=Tryz.g5 ⟨a.heap.size,0,none⟩ ⟨b,0,none⟩ (VJ a ⟨b,0,none⟩) (by unfold VJ;rw[Ag8 _ _ ⟨a.heap.size,0,none⟩ (by simp;omega)];simp);have g:(VJ a ⟨b,0,none⟩).heap.size=a.heap.size+1+1+1:=by simp[VJ]
 have ak:=Tryz.gG b (a.heap.size+1+1+1) d (V C e) (V C f) l m n ((VJ a ⟨b,0,none⟩).alloc (.cells #[d,V C e,V C f] 107))
  (by rw[<-g];simp) (by rw[<-g];simp) (by rw[<-g];simp)
  (Aa c o) (Aa c w) (Aa c x) (by rw[(FA c).2 _ _ i];exact r) (by rw[(FA c).2 _ _ i];exact s) (by rw[(FA c).2 _ _ i];exact t) v rfl rfl
 clear k h c g;unfold VJ at*;go_enter Tryz.func30,Tryz.ntmps30;go_wp2;refine wp_loop_rounds 1 ?_;rw[rounds_succ];go_wp2;go_ret;simp
theorem Jz(d c:Addr)(n cb:Array X)(u v:Ad5)(s t:Int)(a:Q)(r:d≠c)(j:a.heap[d.block]?=some (.cells n u (0,0)))(k:a.heap[c.block]?=some (.cells cb v (0,0))):
 Adg Acs 29 #[Z 107 (T #[Z 366 (J (some d)),V C s,V C t]),Z 366 (J (some c))] a λi l=>i=F (A false)/\Below a.heap.size a l:=by
 let ⟨B,p,o⟩:=Adb.1 Tryz.eR
 let ⟨D,q,y⟩:=Adb.1 Tryz.eV
 have K:=Tryz.eB;have cT:=Tryz.dX;have E:=Tryz.dE;have H:=Tryz.e9;have L:=Tryz.eb;have G:=Tryz.dQ;have I:=Tryz.fW;have M:=Tryz.eK;have N:=Tryz.eH;have f:∀b,Below a.heap.size a (a.alloc b):=λb=>(Acv _ _).alloc .refl b;have g:∀{e:Addr} {m:Obj},a.heap[e.block]?=some m->e.block<a.heap.size:=fun {e m} h=>by
  grind
 have x:=λb=>run_eql_iface_ptr_other (a.alloc b) Tryz.underlying74 Tryz.underlying366 p o q (by omega) r (by rw[(f b).block _ (g j)];exact j) (by rw[(f b).block _ (g k)];exact k);have z:=λw=>run_eql_iface_types 107 366 w (J (some c)) Tryz.underlying74 nofun a;clear f g;go_enter Tryz.func29,Tryz.ntmps29;go_wp2;refine wp_loop_rounds 2 ?_;rw[rounds_succ];go_wp2_with (first|go_in|(go_at_call 270;refine(Js _ _ _ _).mono ?_;rintro i l ⟨rfl,rfl⟩))
 rw[rounds_succ];go_wp2;go_ret;exact⟨rfl,bA⟩
end Go.Proofs.YtnghccjoicmabaaGreatDoor
namespace Go.Proofs.YtnghccjoicmabaaGreatDoor
open Go.RowKit
variable{n:World}{w:Nat}{we w7:Int}{o:Nat->Addr}
def WV(a:Nat):Nat:=[0,11,12,13,0,3,5,6,7,8,9,10,1,2,4,14,15,16,17].getD a 0
def Hw(a:Nat):Int:=[(15:Int),12,13,14,1,4,6,7,8,9,10,11,2,3,5,16,17,18,19].getD a 0
def Sv(a:Addr):X:=Z 366 (J (some a))
def M8(a:Addr)(b c:Int):X:=Z 107 (T #[Z 366 (J (some a)),V C b,V C c])
structure Ck (b:Q) (a:Nat->Addr):Prop where
 c:∀i,(1<=i/\i<19)->b.cell? ⟨WV i,0,none⟩=some (Sv (a i))
 o:∀i,(1<=i/\i<19)->∃c t,b.heap[(a i).block]?=some (.cells c t (0,0))
 ne:∀i j,(1<=i/\i<19)->(1<=j/\j<19)->i≠j->a i≠a j
 et:b.cell? ⟨18,0,none⟩=some (Z 210 (T #[J (some ⟨26,74,none⟩)]))
theorem Ck.cJ{w:Q}{e:Nat->Addr}(a:Ck w e)(b:Below w.heap.size w n):Ck n e:=by
 refine⟨λd c=>Aa b (a.c d c),λd c=>?_,a.ne,Aa b a.et⟩;let ⟨f,t,g⟩:=a.o d c
 refine⟨f,t,?_⟩;rw[b.block]
 ·exact g
 grind
theorem XA{c:Nat->Addr}(e:Ck n c)(a b:Nat)(h:1<=a/\a<19)(i:1<=b/\b<19)(f g:Int):
 Adg Acs 29 #[M8 (c a) f g,Sv (c b)] n λd r=>d=F (A (decide (a=b)))/\Below n.heap.size n r:=by
 by_cases d:a=b
 ·subst d;refine(KZ (c a) f g n).mono ?_;simp
 ·let ⟨j,p,l⟩:=e.o a h
  let ⟨k,q,m⟩:=e.o b i
  refine(Jz (c a) (c b) j k p q f g n (e.ne a b h i d) l m).mono ?_;grind
theorem Zq(a:w=0):(15:Int)=Hw w:=by rw[a];rfl
theorem Wy(a:we=w7):Ending.returned (V C we)=F (V C w7):=by rw[a]
def MO(b:Q)(a:Nat->Addr):Prop:=
 b.cell? ⟨0,0,none⟩=some (Z 366 (J (some (a 4))))/\b.cell? ⟨3,0,none⟩=some (Z 366 (J (some (a 5))))/\b.cell? ⟨5,0,none⟩=some (Z 366 (J (some (a 6))))/\b.cell? ⟨6,0,none⟩=some (Z 366 (J (some (a 7))))/\b.cell? ⟨7,0,none⟩=some (Z 366 (J (some (a 8))))/\b.cell? ⟨8,0,none⟩=some (Z 366 (J (some (a 9))))/\b.cell? ⟨9,0,none⟩=some (Z 366 (J (some (a 10))))/\b.cell? ⟨10,0,none⟩=some (Z 366 (J (some (a 11))))/\b.cell? ⟨11,0,none⟩=some (Z 366 (J (some (a 1))))/\b.cell? ⟨12,0,none⟩=some (Z 366 (J (some (a 2))))/\b.cell? ⟨13,0,none⟩=some (Z 366 (J (some (a 3))))/\b.cell? ⟨1,0,none⟩=some (Z 366 (J (some (a 12))))/\b.cell? ⟨2,0,none⟩=some (Z 366 (J (some (a 13))))/\b.cell? ⟨4,0,none⟩=some (Z 366 (J (some (a 14))))/\b.cell? ⟨14,0,none⟩=some (Z 366 (J (some (a 15))))/\b.cell? ⟨15,0,none⟩=some (Z 366 (J (some (a 16))))/\b.cell? ⟨16,0,none⟩=some (Z 366 (J (some (a 17))))/\b.cell? ⟨17,0,none⟩=some (Z 366 (J (some (a 18))))
theorem Ck.cells(a:Ck n o):MO n o:=
 ⟨a.c 4 (by omega),a.c 5 (by omega),a.c 6 (by omega),a.c 7 (by omega),a.c 8 (by omega),a.c 9 (by omega),a.c 10 (by omega),a.c 11 (by omega),a.c 1 (by omega),a.c 2 (by omega),a.c 3 (by omega),a.c 12 (by omega),a.c 13 (by omega),a.c 14 (by omega),a.c 15 (by omega),a.c 16 (by omega),a.c 17 (by omega),a.c 18 (by omega)⟩
def U2(b:Q)(d:Nat->Addr)(g:Ad5)(i:X)(f:Nat):Prop:=∀c,Below b.heap.size b c->∀a,(1<=a/\a<19)->Adg Acs 29 #[Z g i,Z 366 (J (some (d a)))] c λe h=>e=F (A (decide (f=a)))/\Below b.heap.size b h
theorem OJ(a:Q)(f:Nat->Addr)(I:∀b,Below a.heap.size a b->MO b f)(B:Ad5)(D:X)(c:Nat)(z:1<=c/\c<19)(H:U2 a f B D c):
 Adg Acs 16 #[Z B D] a λg b=>g=F (V C (Hw c))/\Below a.heap.size a b:=by
 have G:Hid (∀b,Below a.heap.size a b->∀d,(1<=d/\d<19)->Adg Acs 29 #[Z B D,Z 366 (J (some (f d)))] b λg K=>g=F (A (decide (c=d)))/\Below a.heap.size a K/\MO K f):=by
  intro b L d M;refine(H b L d M).mono ?_;grind
 obtain⟨t,u,v,w,x,y,i,j,h,r,s,k,l,m,n,o,p,q⟩:=I a (Acv _ _);have e:=Acv a.heap.size a;have E:Hid ((1<=c/\c<19)):=z;clear I H z;go_enter Tryz.func16,Tryz.ntmps16;go_wp2_with (first|(go_at_call 29;refine(G.out _ e _ (by omega)).mono ?_;clear e t u v w x y i j h r s k l m n o p q;rintro g N ⟨rfl,e,t,u,v,w,x,y,i,j,h,r,s,k,l,m,n,o,p,q⟩))
 all_goals
  go_ret;refine⟨Wy ?_,e⟩;have z:=E.out;clear G E t u v w x y i j h r s k l m n o p q e;first
   |(subst_vars;rfl)
   |omega
theorem Pd(a:Q)(c:Nat->Addr)(h:Ck a c)(d:Ad5)(e:X)(b:Nat)(j:1<=b/\b<19)(g:U2 a c d e b):
 Adg Acs 16 #[Z d e] a λf k=>f=F (V C (Hw b))/\Below a.heap.size a k:=
 OJ a c (λ_ i=>(h.cJ i).cells) d e b j g
theorem Ke(c:Ck n o)(a:Nat)(d:1<=a/\a<19)(e f:Int):
 Adg Acs 16 #[M8 (o a) e f] n λg l=>g=F (V C (Hw a))/\Below n.heap.size n l:=
 Pd n o c _ _ a d λ_ b k j=>(XA (c.cJ b) a k d j e f).mono λ_ _ ⟨h,i⟩=>⟨h,b.trans (i.mono b.size)⟩
theorem Tr(a:Q):Adg Acs 16 #[.nilIface] a λb c=>b=F (V C 0)/\c=a:=by
 go_wp2;go_ret;simp
end Go.Proofs.YtnghccjoicmabaaGreatDoor
