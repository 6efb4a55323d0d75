import Derived.Shelf.LaysC
import Derived.Shelf.Strings.Split
import Derived.Shelf.Strings.SlTrimAscii
import Derived.Shelf.Strconv.AtoiAll
import Derived.Shelf.Unicode.ValidAny
import Derived.Test.YtdpomdelmdofmaaGreatDoorRea13
import Derived.Maps.Range
import Derived.Maps.RangeWalk
import Derived.Maps.Ext
import Derived.Sort.MapsRangeIn
open Go.Proofs.Tryz renaming prog->AI
open Go.DataW renaming map->AS
open Go.Maps renaming has->AT,Canon->CH,size->DD
open Go renaming Value->A1,DataW->A2,wpList_lookup_own_ok->A6,World->D0,Calls->D2,maxLen->D3
open Nat renaming le_refl->A3
open Go.Shelf renaming Ren->A4
open List renaming take_succ_eq_append_getElem->A5,take_of_length_le->BY,any_eq_true->Dp
open Go.RowKit.Below renaming refl->Bs
open Go.RowKit renaming Below->CD
open Prod renaming fst->CL
open Go.WideAt renaming sameKey_eq->CR,atKey_mem->Dt
open Option.some renaming inj->D1
open Go.Lib renaming cut->E0
namespace Go.Proofs
open Go.Shelf
def Tryz.lays160_ren:A4:=⟨fun|160=>195|232=>235|231=>234|227=>236|234=>238|233=>237|236=>240|235=>239|228=>281|271=>283|151=>282|197=>230|120=>307|152=>306|260=>276|137=>314|119=>315|224=>279|225=>278|217=>277|266=>304|n=>n,fun|9=>9|4=>4|3=>3|5=>5|117=>295|116=>294|0=>0|124=>298|21=>21|105=>289|46=>201|119=>207|139=>210|138=>209|n=>n,fun|3=>1|4=>2|n=>n⟩
theorem Tryz.lays160:Go.Proofs.Lays.n160 AI Tryz.lays160_ren:={
 mixed:=by kernel_rfl
 f119:=Tryz.func315.trans (congrArg some (by kernel_rfl))
 f120:=Tryz.func307.trans (congrArg some (by kernel_rfl))
 f137:=Tryz.func314.trans (congrArg some (by kernel_rfl))
 f151:=Tryz.func282.trans (congrArg some (by kernel_rfl))
 f152:=Tryz.func306.trans (congrArg some (by kernel_rfl))
 f160:=Tryz.func195.trans (congrArg some (by kernel_rfl))
 f197:=Tryz.func230.trans (congrArg some (by kernel_rfl))
 f217:=Tryz.func277.trans (congrArg some (by kernel_rfl))
 f224:=Tryz.func279.trans (congrArg some (by kernel_rfl))
 f225:=Tryz.func278.trans (congrArg some (by kernel_rfl))
 f227:=Tryz.func236.trans (congrArg some (by kernel_rfl))
 f228:=Tryz.func281.trans (congrArg some (by kernel_rfl))
 f231:=Tryz.func234.trans (congrArg some (by kernel_rfl))
 f232:=Tryz.func235.trans (congrArg some (by kernel_rfl))
 f233:=Tryz.func237.trans (congrArg some (by kernel_rfl))
 f234:=Tryz.func238.trans (congrArg some (by kernel_rfl))
 f235:=Tryz.func239.trans (congrArg some (by kernel_rfl))
 f236:=Tryz.func240.trans (congrArg some (by kernel_rfl))
 f260:=Tryz.func276.trans (congrArg some (by kernel_rfl))
 f266:=Tryz.func304.trans (congrArg some (by kernel_rfl))
 f271:=Tryz.func283.trans (congrArg some (by kernel_rfl))
 t0:=underlying0
 a0:=Tryz.isAgg0
 z0:=Tryz.sizeOf0
 v0:=Tryz.zeroValue0
 t3:=underlying3
 a3:=Tryz.isAgg3
 z3:=Tryz.sizeOf3
 v3:=Tryz.zeroValue3
 t4:=underlying4
 a4:=Tryz.isAgg4
 z4:=Tryz.sizeOf4
 v4:=Tryz.zeroValue4
 t5:=underlying5
 a5:=Tryz.isAgg5
 z5:=Tryz.sizeOf5
 v5:=Tryz.zeroValue5
 t9:=underlying9
 a9:=Tryz.isAgg9
 z9:=Tryz.sizeOf9
 v9:=Tryz.zeroValue9
 t21:=underlying21
 a21:=Tryz.isAgg21
 z21:=Tryz.sizeOf21
 v21:=Tryz.zeroValue21
 t46:=underlying201
 a46:=Tryz.isAgg201
 z46:=Tryz.sizeOf201
 v46:=Tryz.zeroValue201
 t105:=underlying289
 a105:=Tryz.isAgg289
 z105:=Tryz.sizeOf289
 v105:=Tryz.zeroValue289
 t116:=underlying294
 a116:=Tryz.isAgg294
 z116:=Tryz.sizeOf294
 t117:=underlying295
 a117:=Tryz.isAgg295
 z117:=Tryz.sizeOf295
 v117:=Tryz.zeroValue295
 t119:=underlying207
 a119:=Tryz.isAgg207
 z119:=Tryz.sizeOf207
 t124:=underlying298
 a124:=Tryz.isAgg298
 z124:=Tryz.sizeOf298
 v124:=Tryz.zeroValue298
 t138:=underlying209
 a138:=Tryz.isAgg209
 z138:=Tryz.sizeOf209
 v138:=Tryz.zeroValue209
 t139:=underlying210
 a139:=Tryz.isAgg210
 z139:=Tryz.sizeOf210
 v139:=Tryz.zeroValue210
 g3:=by kernel_rfl
 g4:=by kernel_rfl }
def Tryz.laysC172_ren:A4:=⟨fun|172=>196|244=>241|245=>242|247=>284|279=>285|280=>286|281=>287|282=>288|287=>308|316=>297|171=>94|205=>309|321=>316|322=>317|243=>131|246=>173|283=>212|284=>213|285=>214|286=>215|129=>257|317=>256|318=>258|319=>259|320=>260|337=>293|338=>294|n=>n,fun|9=>9|3=>3|75=>162|76=>163|4=>4|5=>5|167=>325|37=>117|0=>0|85=>326|2=>2|168=>328|53=>252|175=>345|46=>201|210=>348|127=>166|145=>360|143=>358|21=>21|171=>274|173=>277|212=>312|51=>313|20=>20|213=>314|232=>352|233=>353|80=>40|n=>n,fun|15=>8|16=>9|17=>5|18=>10|19=>11|n=>n⟩
theorem Tryz.laysC172:Go.Proofs.LaysC.n172 AI Tryz.laysC172_ren:={
 mixed:=by kernel_rfl
 f129:=Tryz.func257.trans (congrArg some (by kernel_rfl))
 f171:=Tryz.func94.trans (congrArg some (by kernel_rfl))
 f172:=Tryz.func196.trans (congrArg some (by kernel_rfl))
 f205:=Tryz.func309.trans (congrArg some (by kernel_rfl))
 f243:=Tryz.func131.trans (congrArg some (by kernel_rfl))
 f244:=Tryz.func241.trans (congrArg some (by kernel_rfl))
 f245:=Tryz.func242.trans (congrArg some (by kernel_rfl))
 f246:=Tryz.func173.trans (congrArg some (by kernel_rfl))
 f247:=Tryz.func284.trans (congrArg some (by kernel_rfl))
 f279:=Tryz.func285.trans (congrArg some (by kernel_rfl))
 f280:=Tryz.func286.trans (congrArg some (by kernel_rfl))
 f281:=Tryz.func287.trans (congrArg some (by kernel_rfl))
 f282:=Tryz.func288.trans (congrArg some (by kernel_rfl))
 f283:=Tryz.func212.trans (congrArg some (by kernel_rfl))
 f284:=Tryz.func213.trans (congrArg some (by kernel_rfl))
 f285:=Tryz.func214.trans (congrArg some (by kernel_rfl))
 f286:=Tryz.func215.trans (congrArg some (by kernel_rfl))
 f287:=Tryz.func308.trans (congrArg some (by kernel_rfl))
 f316:=Tryz.func297.trans (congrArg some (by kernel_rfl))
 f317:=Tryz.func256.trans (congrArg some (by kernel_rfl))
 f318:=Tryz.func258.trans (congrArg some (by kernel_rfl))
 f319:=Tryz.func259.trans (congrArg some (by kernel_rfl))
 f320:=Tryz.func260.trans (congrArg some (by kernel_rfl))
 f321:=Tryz.func316.trans (congrArg some (by kernel_rfl))
 f322:=Tryz.func317.trans (congrArg some (by kernel_rfl))
 f337:=Tryz.func293.trans (congrArg some (by kernel_rfl))
 f338:=Tryz.func294.trans (congrArg some (by kernel_rfl))
 t0:=underlying0
 a0:=Tryz.isAgg0
 z0:=Tryz.sizeOf0
 v0:=Tryz.zeroValue0
 t2:=underlying2
 a2:=Tryz.isAgg2
 z2:=Tryz.sizeOf2
 v2:=Tryz.zeroValue2
 t3:=underlying3
 a3:=Tryz.isAgg3
 z3:=Tryz.sizeOf3
 v3:=Tryz.zeroValue3
 t4:=underlying4
 a4:=Tryz.isAgg4
 z4:=Tryz.sizeOf4
 v4:=Tryz.zeroValue4
 t5:=underlying5
 a5:=Tryz.isAgg5
 z5:=Tryz.sizeOf5
 v5:=Tryz.zeroValue5
 t9:=underlying9
 a9:=Tryz.isAgg9
 z9:=Tryz.sizeOf9
 v9:=Tryz.zeroValue9
 t20:=underlying20
 a20:=Tryz.isAgg20
 z20:=Tryz.sizeOf20
 v20:=Tryz.zeroValue20
 t21:=underlying21
 a21:=Tryz.isAgg21
 z21:=Tryz.sizeOf21
 v21:=Tryz.zeroValue21
 t37:=underlying117
 a37:=Tryz.isAgg117
 z37:=Tryz.sizeOf117
 v37:=Tryz.zeroValue117
 t46:=underlying201
 a46:=Tryz.isAgg201
 z46:=Tryz.sizeOf201
 v46:=Tryz.zeroValue201
 t51:=underlying313
 a51:=Tryz.isAgg313
 z51:=Tryz.sizeOf313
 v51:=Tryz.zeroValue313
 t53:=underlying252
 a53:=Tryz.isAgg252
 z53:=Tryz.sizeOf252
 v53:=Tryz.zeroValue252
 t75:=underlying162
 a75:=Tryz.isAgg162
 z75:=Tryz.sizeOf162
 v75:=Tryz.zeroValue162
 t76:=underlying163
 a76:=Tryz.isAgg163
 z76:=Tryz.sizeOf163
 v76:=Tryz.zeroValue163
 t85:=underlying326
 a85:=Tryz.isAgg326
 z85:=Tryz.sizeOf326
 v85:=Tryz.zeroValue326
 t127:=underlying166
 a127:=Tryz.isAgg166
 z127:=Tryz.sizeOf166
 v127:=Tryz.zeroValue166
 t143:=underlying358
 a143:=Tryz.isAgg358
 z143:=Tryz.sizeOf358
 v143:=Tryz.zeroValue358
 t145:=underlying360
 a145:=Tryz.isAgg360
 z145:=Tryz.sizeOf360
 v145:=Tryz.zeroValue360
 t167:=underlying325
 a167:=Tryz.isAgg325
 z167:=Tryz.sizeOf325
 v167:=Tryz.zeroValue325
 t168:=underlying328
 a168:=Tryz.isAgg328
 z168:=Tryz.sizeOf328
 v168:=Tryz.zeroValue328
 t171:=underlying274
 a171:=Tryz.isAgg274
 z171:=Tryz.sizeOf274
 v171:=Tryz.zeroValue274
 t173:=underlying277
 a173:=Tryz.isAgg277
 z173:=Tryz.sizeOf277
 v173:=Tryz.zeroValue277
 t175:=underlying345
 a175:=Tryz.isAgg345
 z175:=Tryz.sizeOf345
 v175:=Tryz.zeroValue345
 t210:=underlying348
 a210:=Tryz.isAgg348
 z210:=Tryz.sizeOf348
 v210:=Tryz.zeroValue348
 t212:=underlying312
 a212:=Tryz.isAgg312
 z212:=Tryz.sizeOf312
 v212:=Tryz.zeroValue312
 t213:=underlying314
 a213:=Tryz.isAgg314
 z213:=Tryz.sizeOf314
 t232:=underlying352
 a232:=Tryz.isAgg352
 z232:=Tryz.sizeOf352
 v232:=Tryz.zeroValue352
 t233:=underlying353
 a233:=Tryz.isAgg353
 z233:=Tryz.sizeOf353
 v233:=Tryz.zeroValue353
 g15:=by kernel_rfl
 g16:=by kernel_rfl
 g17:=by kernel_rfl
 g18:=by kernel_rfl
 g19:=by kernel_rfl
 t80:=underlying40
 a80:=Tryz.isAgg40
 z80:=Tryz.sizeOf40
 v80:=Tryz.zeroValue40
 i0:=by kernel_rfl
 i2:=by kernel_rfl
 i3:=by kernel_rfl
 i4:=by kernel_rfl
 i5:=by kernel_rfl
 i9:=by kernel_rfl
 i20:=by kernel_rfl
 i21:=by kernel_rfl
 i37:=by kernel_rfl
 i46:=by kernel_rfl
 i51:=by kernel_rfl
 i53:=by kernel_rfl
 i75:=by kernel_rfl
 i76:=by kernel_rfl
 i80:=by kernel_rfl
 i85:=by kernel_rfl
 i127:=by kernel_rfl
 i143:=by kernel_rfl
 i145:=by kernel_rfl
 i167:=by kernel_rfl
 i168:=by kernel_rfl
 i171:=by kernel_rfl
 i173:=by kernel_rfl
 i175:=by kernel_rfl
 i210:=by kernel_rfl
 i212:=by kernel_rfl
 i232:=by kernel_rfl
 i233:=by kernel_rfl
 m15:=by kernel_rfl
 m16:=by kernel_rfl
 m17:=by kernel_rfl
 m18:=by kernel_rfl
 m19:=by kernel_rfl
 c0:=by kernel_rfl
 c2:=by kernel_rfl
 c3:=by kernel_rfl
 c4:=by kernel_rfl
 c5:=by kernel_rfl
 c9:=by kernel_rfl
 c20:=by kernel_rfl
 c21:=by kernel_rfl
 c37:=by kernel_rfl
 c46:=by kernel_rfl
 c51:=by kernel_rfl
 c53:=by kernel_rfl
 c75:=by kernel_rfl
 c76:=by kernel_rfl
 c80:=by kernel_rfl
 c85:=by kernel_rfl
 c127:=by kernel_rfl
 c143:=by kernel_rfl
 c145:=by kernel_rfl
 c167:=by kernel_rfl
 c168:=by kernel_rfl
 c171:=by kernel_rfl
 c173:=by kernel_rfl
 c175:=by kernel_rfl
 c210:=by kernel_rfl
 c212:=by kernel_rfl
 c213:=by kernel_rfl
 c232:=by kernel_rfl
 c233:=by kernel_rfl }
def Tryz.lays145_ren:A4:=⟨fun|145=>145|220=>193|219=>232|217=>277|225=>278|224=>279|267=>280|266=>304|314=>305|n=>n,fun|9=>9|4=>4|59=>212|3=>3|5=>5|46=>201|146=>342|51=>313|n=>n,fun|1=>6|n=>n⟩
theorem Tryz.lays145:Go.Proofs.Lays.n145 AI Tryz.lays145_ren:={
 mixed:=by kernel_rfl
 f145:=Tryz.func145.trans (congrArg some (by kernel_rfl))
 f217:=Tryz.func277.trans (congrArg some (by kernel_rfl))
 f219:=Tryz.func232.trans (congrArg some (by kernel_rfl))
 f220:=Tryz.func193.trans (congrArg some (by kernel_rfl))
 f224:=Tryz.func279.trans (congrArg some (by kernel_rfl))
 f225:=Tryz.func278.trans (congrArg some (by kernel_rfl))
 f266:=Tryz.func304.trans (congrArg some (by kernel_rfl))
 f267:=Tryz.func280.trans (congrArg some (by kernel_rfl))
 f314:=Tryz.func305.trans (congrArg some (by kernel_rfl))
 t3:=underlying3
 a3:=Tryz.isAgg3
 z3:=Tryz.sizeOf3
 v3:=Tryz.zeroValue3
 t4:=underlying4
 a4:=Tryz.isAgg4
 z4:=Tryz.sizeOf4
 v4:=Tryz.zeroValue4
 t5:=underlying5
 a5:=Tryz.isAgg5
 z5:=Tryz.sizeOf5
 v5:=Tryz.zeroValue5
 t9:=underlying9
 a9:=Tryz.isAgg9
 z9:=Tryz.sizeOf9
 v9:=Tryz.zeroValue9
 t46:=underlying201
 a46:=Tryz.isAgg201
 z46:=Tryz.sizeOf201
 v46:=Tryz.zeroValue201
 t51:=underlying313
 a51:=Tryz.isAgg313
 z51:=Tryz.sizeOf313
 v51:=Tryz.zeroValue313
 t59:=underlying212
 a59:=Tryz.isAgg212
 z59:=Tryz.sizeOf212
 v59:=Tryz.zeroValue212
 t146:=underlying342
 a146:=Tryz.isAgg342
 z146:=Tryz.sizeOf342
 v146:=Tryz.zeroValue342
 g1:=by kernel_rfl }
open Go.RowKit Go.Lib in
theorem Tryz.strings_Cut(s q0:ByteArray)(m:Int)(w:D0)(hs:s.size<4294967281)(hm:w.cell? ⟨6,0,none⟩=some (.int .i64 m)):
  D2 AI 145 #[.string s,.string q0] w fun e w'=>e=.returned (.tuple #[.string ⟨(E0 s.data.toList q0.data.toList).1.toArray⟩,.string ⟨(E0 s.data.toList q0.data.toList).2.1.toArray⟩,.bool (E0 s.data.toList q0.data.toList).2.2]) /\ ∃n,w'=w.drewN n:=Any.strings_Cut Tryz.lays145 s q0 m w hs hm
def Tryz.lays221_ren:A4:=⟨fun|221=>144|268=>190|138=>191|143=>192|195=>229|197=>230|218=>231|219=>232|260=>276|217=>277|225=>278|224=>279|267=>280|266=>304|314=>305|n=>n,fun|9=>9|3=>3|31=>59|4=>4|0=>0|105=>289|21=>21|5=>5|46=>201|119=>207|139=>210|138=>209|146=>342|51=>313|n=>n,fun|1=>6|3=>1|4=>2|n=>n⟩
def Tryz.lays146_ren:A4:=⟨fun|146=>109|221=>144|268=>190|138=>191|143=>192|195=>229|197=>230|218=>231|219=>232|260=>276|217=>277|225=>278|224=>279|267=>280|266=>304|314=>305|n=>n,fun|9=>9|31=>59|3=>3|4=>4|0=>0|105=>289|21=>21|5=>5|46=>201|119=>207|139=>210|138=>209|146=>342|51=>313|n=>n,fun|1=>6|3=>1|4=>2|n=>n⟩
theorem Tryz.lays146:Go.Proofs.Lays.n146 AI Tryz.lays146_ren:={
 mixed:=by kernel_rfl
 f138:=Tryz.func191.trans (congrArg some (by kernel_rfl))
 f143:=Tryz.func192.trans (congrArg some (by kernel_rfl))
 f146:=Tryz.func109.trans (congrArg some (by kernel_rfl))
 f195:=Tryz.func229.trans (congrArg some (by kernel_rfl))
 f197:=Tryz.func230.trans (congrArg some (by kernel_rfl))
 f217:=Tryz.func277.trans (congrArg some (by kernel_rfl))
 f218:=Tryz.func231.trans (congrArg some (by kernel_rfl))
 f219:=Tryz.func232.trans (congrArg some (by kernel_rfl))
 f221:=Tryz.func144.trans (congrArg some (by kernel_rfl))
 f224:=Tryz.func279.trans (congrArg some (by kernel_rfl))
 f225:=Tryz.func278.trans (congrArg some (by kernel_rfl))
 f260:=Tryz.func276.trans (congrArg some (by kernel_rfl))
 f266:=Tryz.func304.trans (congrArg some (by kernel_rfl))
 f267:=Tryz.func280.trans (congrArg some (by kernel_rfl))
 f268:=Tryz.func190.trans (congrArg some (by kernel_rfl))
 f314:=Tryz.func305.trans (congrArg some (by kernel_rfl))
 t0:=underlying0
 a0:=Tryz.isAgg0
 z0:=Tryz.sizeOf0
 v0:=Tryz.zeroValue0
 t3:=underlying3
 a3:=Tryz.isAgg3
 z3:=Tryz.sizeOf3
 v3:=Tryz.zeroValue3
 t4:=underlying4
 a4:=Tryz.isAgg4
 z4:=Tryz.sizeOf4
 v4:=Tryz.zeroValue4
 t5:=underlying5
 a5:=Tryz.isAgg5
 z5:=Tryz.sizeOf5
 v5:=Tryz.zeroValue5
 t9:=underlying9
 a9:=Tryz.isAgg9
 z9:=Tryz.sizeOf9
 v9:=Tryz.zeroValue9
 t21:=underlying21
 a21:=Tryz.isAgg21
 z21:=Tryz.sizeOf21
 v21:=Tryz.zeroValue21
 t31:=underlying59
 a31:=Tryz.isAgg59
 z31:=Tryz.sizeOf59
 v31:=Tryz.zeroValue59
 t46:=underlying201
 a46:=Tryz.isAgg201
 z46:=Tryz.sizeOf201
 v46:=Tryz.zeroValue201
 t51:=underlying313
 a51:=Tryz.isAgg313
 z51:=Tryz.sizeOf313
 v51:=Tryz.zeroValue313
 t105:=underlying289
 a105:=Tryz.isAgg289
 z105:=Tryz.sizeOf289
 v105:=Tryz.zeroValue289
 t119:=underlying207
 a119:=Tryz.isAgg207
 z119:=Tryz.sizeOf207
 t138:=underlying209
 a138:=Tryz.isAgg209
 z138:=Tryz.sizeOf209
 v138:=Tryz.zeroValue209
 t139:=underlying210
 a139:=Tryz.isAgg210
 z139:=Tryz.sizeOf210
 v139:=Tryz.zeroValue210
 t146:=underlying342
 a146:=Tryz.isAgg342
 z146:=Tryz.sizeOf342
 v146:=Tryz.zeroValue342
 g1:=by kernel_rfl
 g3:=by kernel_rfl
 g4:=by kernel_rfl }
def Tryz.lays196_ren:A4:=⟨fun|196=>108|259=>143|n=>n,fun|9=>9|4=>4|3=>3|5=>5|12=>12|119=>207|0=>0|46=>201|139=>210|138=>209|53=>252|n=>n,fun|3=>1|4=>2|n=>n⟩
theorem Tryz.lays196:Go.Proofs.Lays.n196 AI Tryz.lays196_ren:={
 mixed:=by kernel_rfl
 f196:=Tryz.func108.trans (congrArg some (by kernel_rfl))
 f259:=Tryz.func143.trans (congrArg some (by kernel_rfl))
 t0:=underlying0
 a0:=Tryz.isAgg0
 z0:=Tryz.sizeOf0
 v0:=Tryz.zeroValue0
 t3:=underlying3
 a3:=Tryz.isAgg3
 z3:=Tryz.sizeOf3
 v3:=Tryz.zeroValue3
 t4:=underlying4
 a4:=Tryz.isAgg4
 z4:=Tryz.sizeOf4
 v4:=Tryz.zeroValue4
 t5:=underlying5
 a5:=Tryz.isAgg5
 z5:=Tryz.sizeOf5
 v5:=Tryz.zeroValue5
 t9:=underlying9
 a9:=Tryz.isAgg9
 z9:=Tryz.sizeOf9
 v9:=Tryz.zeroValue9
 t12:=underlying12
 a12:=Tryz.isAgg12
 z12:=Tryz.sizeOf12
 v12:=Tryz.zeroValue12
 t46:=underlying201
 a46:=Tryz.isAgg201
 z46:=Tryz.sizeOf201
 v46:=Tryz.zeroValue201
 t53:=underlying252
 a53:=Tryz.isAgg252
 z53:=Tryz.sizeOf252
 v53:=Tryz.zeroValue252
 t119:=underlying207
 a119:=Tryz.isAgg207
 z119:=Tryz.sizeOf207
 t138:=underlying209
 a138:=Tryz.isAgg209
 z138:=Tryz.sizeOf209
 v138:=Tryz.zeroValue209
 t139:=underlying210
 a139:=Tryz.isAgg210
 z139:=Tryz.sizeOf210
 v139:=Tryz.zeroValue210
 g3:=by kernel_rfl
 g4:=by kernel_rfl }
end Go.Proofs

set_option maxHeartbeats 4000000
namespace Go.Proofs.YtdpomdelmdofmaaGreatDoor
open Go.Proofs.Tryz
open Go.RowKit
variable{n n':Nm}{s s':By}{sl sl' mp q0:A1}
theorem Bm{w:D0}{B e n:Nat}{v:A1}{xs:List A1}(h:w.ownsRow B e 1 v n xs)(hpos:0<n):∃g cap,v=.slice (some ⟨g,0,none⟩) n cap/\n<=cap/\cap<=D3/\g<w.heap.size /\ ∀k (hk:k<xs.length),w.cell? ⟨g,k,none⟩=some xs[k]:=by
 obtain⟨q0,h⟩:=h;rcases h with⟨_,h0⟩|⟨g,cap,cur,h1,_,h3,h4,h5,h6,h7⟩
 ·omega
 ·refine⟨g,cap,h1,h4,h5,by grind,fun k hk=>?_⟩;have q4:k<cur.size:=by omega
  have e:w.cell? ⟨g,k,none⟩=cur[k]?:=by simp[World.cell?,h3]
  grind
section
variable{w:D0}{b b':Nat}
theorem Ma{k k':Int}(h:VB w b k n s sl mp)(h':VB w b' k' n' s' sl' q0)(hk:k≠k'):
  D2 AI 82 #[.pointer (some ⟨b,0,none⟩),.pointer (some ⟨b',0,none⟩)] w fun e w'=>e=.returned (.bool false)/\CD w.heap.size w w':=by
 have c0:=h.c0;have d0:=h'.c0;have e0:(k==k')=false:=beq_eq_false_iff_ne.2 hk;have e1:(k != k')=true:=by grind
 clear h h' hk
 go_enter func82,ntmps82
 go_wp2_with (fail)
 go_quiet (fail)
 go_wp2_with (fail)
 go_ret;exact⟨rfl,⟨rfl,rfl,rfl,A3 _,fun _ _=>rfl⟩⟩
theorem Tn{k:Nat}(hk:k<3)(h:VB w b k n s sl mp)(h':VB w b' k n' s' sl' q0):
  D2 AI 82 #[.pointer (some ⟨b,0,none⟩),.pointer (some ⟨b',0,none⟩)] w fun e w'=>e=.returned (.bool true)/\CD w.heap.size w w':=by
 have c0:=h.c0;have d0:=h'.c0;clear h h';have e3:((k:Int)==3)=false:=by grind
 have e4:((k:Int)==4)=false:=by grind
 have e5:((k:Int)==5)=false:=by grind
 have e6:((k:Int)==6)=false:=by grind
 go_enter func82,ntmps82
 go_wp2_with (fail)
 go_quiet (fail)
 go_wp2_with (fail)
 go_ret;exact⟨rfl,⟨rfl,rfl,rfl,A3 _,fun _ _=>rfl⟩⟩
theorem VO(h:VB w b 4 n s sl mp)(h':VB w b' 4 n' s' sl' q0):
  D2 AI 82 #[.pointer (some ⟨b,0,none⟩),.pointer (some ⟨b',0,none⟩)] w fun e w'=>e=.returned (.bool (s==s'))/\CD w.heap.size w w':=by
 have c0:=h.c0;have d0:=h'.c0;have c4:=h.c4;have d4:=h'.c4;clear h h'
 go_enter func82,ntmps82
 go_wp2_with (fail)
 go_quiet (fail)
 go_wp2_with (fail)
 go_quiet (fail)
 go_wp2_with (fail)
 go_ret;exact⟨by rfl,⟨rfl,rfl,rfl,A3 _,fun _ _=>rfl⟩⟩
theorem VQ{q6:A1}(h:VB w b 3 n s sl mp)(h':VB w b' 3 n' s' sl' q6):
  D2 AI 82 #[.pointer (some ⟨b,0,none⟩),.pointer (some ⟨b',0,none⟩)] w fun e w'=>e=.returned (.bool (decide (n=n')))/\CD w.heap.size w w':=by
 have c0:=h.c0;have d0:=h'.c0;have c1:=h.c1;have d1:=h'.c1;have c2:=h.c2;have d2:=h'.c2;have c3:=h.c3;have d3:=h'.c3;clear h h';obtain⟨na,nb,nc⟩:=n;obtain⟨q0,q4,q5⟩:=n';simp only at c1 c2 c3 d1 d2 d3;by_cases h2:nb=q4
 ·have f2:(nb==q4)=true:=beq_iff_eq.2 h2;by_cases h3:nc=q5
  ·have f3:(nc==q5)=true:=beq_iff_eq.2 h3;subst h2;subst h3;cases na<;>cases q0
   all_goals (
    go_enter func82,ntmps82
    go_wp2_with (fail)
    go_quiet (fail)
    go_wp2_with (fail)
    go_quiet (fail)
    go_wp2_with (fail)
    go_ret;exact⟨by simp,⟨rfl,rfl,rfl,A3 _,fun _ _=>rfl⟩⟩)
  ·have f3:(nc==q5)=false:=beq_eq_false_iff_ne.2 h3;subst h2;have H3:=Ab h3;clear h3;cases na<;>cases q0
   all_goals (
    go_enter func82,ntmps82
    go_wp2_with (fail)
    go_quiet (fail)
    go_wp2_with (fail)
    go_quiet (fail)
    go_wp2_with (fail)
    go_ret;exact⟨by simp_all,⟨rfl,rfl,rfl,A3 _,fun _ _=>rfl⟩⟩)
 ·have f2:(nb==q4)=false:=beq_eq_false_iff_ne.2 h2;have H2:=Ab h2;clear h2;cases na<;>cases q0
  all_goals (
   go_enter func82,ntmps82
   go_wp2_with (fail)
   go_quiet (fail)
   go_wp2_with (fail)
   go_quiet (fail)
   go_wp2_with (fail)
   go_ret;exact⟨by simp_all,⟨rfl,rfl,rfl,A3 _,fun _ _=>rfl⟩⟩)
end
end Go.Proofs.YtdpomdelmdofmaaGreatDoor

set_option maxRecDepth 100000
set_option maxHeartbeats 8000000
namespace Go.Proofs.YtdpomdelmdofmaaGreatDoor
open Go.Proofs.Tryz
open Go.RowKit
variable{w:D0}{v:A1}{B:Nat}
def Ga(f:Nat):Prop:=∀ (F F':Nat->Prop) (w:D0) (v v':A1) (a b:To),Rep f F w v a->Rep f F' w v' b->D2 AI 82 #[v,v'] w fun e w'=>e=.returned (.bool (veq a b))/\CD w.heap.size w w'
theorem Rep.bel{f:Nat}{F:Nat->Prop}{w':D0}{d:To}(h:Rep f F w v d)(hb:CD w.heap.size w w'):Rep f F w' v d:=h.move fun k h1 h2=>⟨hb.block k h2,h1⟩
theorem It{e n:Nat}{xs:List A1}(h:w.ownsRow B e 1 v n xs)(h0:n=0):∃a c,v=.slice a 0 c:=by
 rcases h.2 with⟨e,_⟩|⟨g,cap,cur,e,_⟩
 ·grind
 grind
theorem Cx{e n:Nat}{xs:List A1}(h:w.ownsRow B e 1 v n xs):∃a c,v=.slice a n c:=by
 rcases h.2 with⟨e,h0⟩|⟨g,cap,cur,e,_⟩
 ·grind
 grind
theorem Y9{f:Nat}(hS:Ga f){F F':Nat->Prop}{B':Nat}{sl sl':A1}{ps q4:List A1}{es es':List To}(ho:w.ownsRow B 80 1 sl ps.length ps)(q6:w.ownsRow B' 80 1 sl' q4.length q4)(ha:Al (Rep f F w) ps es)(q7:Al (Rep f F' w) q4 es')(qr:ps.length<=D3)(qd:q4.length<=D3):
  D2 AI 112 #[sl,sl',.func (.func 82) #[] #[]] w fun e w'=>e=.returned (.bool (veq (Af es) (Af es')))/\CD w.heap.size w w':=by
 have hl:=ha.length;have q9:=q7.length;obtain⟨N,hN⟩:∃N,N=ps.length:=⟨_,rfl⟩
 obtain⟨N',q5⟩:∃N',N'=q4.length:=⟨_,rfl⟩
 have qt:(N:Int)<=9223372036854775807:=by unfold D3 at qr;omega
 have qu:(N':Int)<=9223372036854775807:=by unfold D3 at qd;omega
 by_cases hne:N=N'
 ·by_cases h0:N=0
  ·obtain⟨a,c,rfl⟩:=It ho (by omega);obtain⟨a',c',rfl⟩:=It q6 (by omega);have e1:es=[]:=by grind
   have e2:es'=[]:=by grind
   have HV:=Ab (EV (show Af es=Af es' by rw[e1,e2]));rw[<- hN,h0] at ho;rw[<- q5,<- hne,h0] at q6;clear ho q6 ha q7 hl q9 e1 e2 hS hN q5 hne
   go_enter func112,ntmps112
   go_wp2_with (fail);refine wp_loop_rounds 1 ?_
   rw[rounds_succ]
   go_wp2_with (fail)
   go_ret;exact⟨by rw[Aa HV];rfl,Bs _ _⟩
  ·obtain⟨g1,p1,rfl,a1,b1,l1,qi⟩:=Bm ho (by omega);obtain⟨g2,p2,rfl,a2,b2,l2,qj⟩:=Bm q6 (by omega);have qo:=Ab qi;have qp:=Ab qj;have HA:=Ab ha;have qn:=Ab q7;have HS:=Ab hS;have HN:=Ab hN;have qh:=Ab q5;have HL:=Ab hl;have qg:=Ab q9;rw[<- hN] at a1 |-;rw[<- q5] at a2 |-;subst hne;clear ho q6 ha q7 hl q9 hS hN q5 qi qj h0
   go_enter func112,ntmps112
   go_wp2_with (fail)
   go_loopw [17] (fun i wr=>∃k:Nat,k<=N/\i=.int .i64 k/\es.take k=es'.take k/\CD w.heap.size w wr) (fun i _=>N-(intOf i).toNat)
   case atStart=>exact⟨0,by omega,rfl,by simp,Bs _ _⟩
   case round=>
    obtain⟨k,hk,rfl,qk,hb⟩:=hrel;have qf:=Ab qk;have HB:=Ab hb;clear qk;by_cases hlt:k<N
    ·have h1:k<ps.length:=by have:=Aa HN;omega
     have h2:k<q4.length:=by have:=Aa qh;omega
     have h3:k<es.length:=by have:=Aa HL;omega
     have h4:k<es'.length:=by have:=Aa qg;omega
     have q1:=(hb.cell (p:=⟨g1,k,none⟩) l1).trans (Aa qo k h1);have q2:=(hb.cell (p:=⟨g2,k,none⟩) l2).trans (Aa qp k h2);have q0:=Ab (Aa HS F F' wr ps[k] q4[k] es[k] es'[k] (((Aa HA).get k h1 h3).bel hb) (((Aa qn).get k h2 h4).bel hb));have qm:es.take (k+1)=es'.take (k+1)<->es[k]=es'[k]:=by
      rw[A5 h3,A5 h4,Aa qf];exact⟨fun h=>List.singleton_inj.1 (List.append_cancel_left h),fun h=>by rw[h]⟩
     have qq:=Ab qm;generalize ps[k]=pk at *;generalize q4[k]=pk' at *;clear qm hb
     go_wp2_with (fail);refine (Aa q0).mono ?_
     rintro e w2 ⟨rfl,hb2⟩;have qe:=Ab ((Aa HB).trans (hb2.mono (Aa HB).size));clear hb2 q0;by_cases q8:es[k]=es'[k]
     ·rw[EV q8];have qb:=Ab ((Aa qq).2 q8);clear q8
      go_wp2_with (fail);exact⟨⟨k+1,by omega,by go_num,Aa qb,Aa qe⟩,by simp only[intOf];omega⟩
     ·rw[Ep q8];have HV:=Ab (Ep (a:=Af es) (b:=Af es') (fun h=>by
       have h5:es=es':=by unfold Af at h;injection h
       grind))
      clear q8
      go_wp2_with (fail)
      go_ret;exact⟨by rw[Aa HV];rfl,Aa qe⟩
    ·have HV:=Ab (EV (show Af es=Af es' by
      have h5:=Aa qf;rw[BY (by have:=Aa HN;have:=Aa HL;omega),BY (by have:=Aa qh;have:=Aa qg;omega)] at h5;rw[h5]))
     go_wp2_with (fail)
     go_ret;exact⟨by rw[Aa HV];rfl,hb⟩
 ·obtain⟨a,c,rfl⟩:=Cx ho;obtain⟨a',c',rfl⟩:=Cx q6;have HV:=Ab (Ep (a:=Af es) (b:=Af es') (fun h=>by
   have h5:es=es':=by unfold Af at h;injection h
   grind))
  have e0:((N:Int)==(N':Int))=false:=by grind
  have e1:((N:Int) != (N':Int))=true:=by grind
  rw[<- hN,<- q5];clear ho q6 ha q7 hl q9 hS hN q5 hne
  go_enter func112,ntmps112
  go_wp2_with (fail)
  go_ret;exact⟨by rw[Aa HV];rfl,Bs _ _⟩
end Go.Proofs.YtdpomdelmdofmaaGreatDoor

namespace Go.Proofs.YtdpomdelmdofmaaGreatDoor
open Go.Proofs.Tryz
open Go.RowKit Go.Maps
theorem NT{α:Type}:∀ {l m:List α},l.Pairwise (· ≠ ·)->(∀x∈l,x∈m)->m.length<=l.length -> ∀x∈m,x∈l
 | [],m,_,_,h,x,hx=>by
  grind
 | a::l,m,hp,hs,h,x,hx=>by
  obtain⟨h1,h2⟩:=List.pairwise_cons.1 hp;obtain⟨m1,m2,rfl⟩:=List.append_of_mem (hs a (List.mem_cons_self ..));have ih:=NT (l:=l) (m:=m1++m2) h2 (fun y hy=>by
   grind) (by grind)
  grind
theorem Pt.fsts{P:A1->To->Prop}:∀ {l:List (Lit×A2 A1)} {m:List (Lit×To)},Pt P l m->l.map CL=m.map CL
 | [],[],_=>rfl
 | a::_,b::_,⟨⟨k,_⟩,t⟩=>by
  have:=Pt.fsts t
  grind
theorem Pt.size{P:A1->To->Prop}{l:List (Lit×A2 A1)}{m:List (Lit×To)}(h:Pt P l m):l.length=m.length:=by
 have:=congrArg List.length h.fsts
 grind
theorem B2{H:Type}(es:List (Lit×A2 H))(k:Lit)(z:A2 H):(AS es).atKey k z=(match es.find? (fun p=>p.1.sameKey k) with|some p=>p.2|none=>z):=rfl
theorem Hp{α:Type}{p:Lit×α->Bool}{a:Lit×α}{l:List (Lit×α)}(h:p a=true):(a::l).find? p=some a:=List.find?_cons_of_pos h
theorem Jq{α:Type}{p:Lit×α->Bool}{a:Lit×α}{l:List (Lit×α)}(h:¬ p a=true):(a::l).find? p=l.find? p:=List.find?_cons_of_neg h
theorem Pt.at{P:A1->To->Prop}(k:Lit):∀ {l:List (Lit×A2 A1)} {m:List (Lit×To)},Pt P l m->AT (.map l) k=true -> ∃x,(∀z,(AS l).atKey k z=.held x)/\P x ((AS m).atKey k .nil)
 | [],[],_,h=>by cases h
 | a::r,b::s,⟨⟨kk,x,e,g⟩,t⟩,h=>by
  by_cases hk:a.1.sameKey k=true
  ·refine⟨x,fun z=>?_,?_⟩
   ·rw[B2,Hp (p:=fun p=>p.1.sameKey k) hk];exact e
   ·rw[B2,Hp (p:=fun p=>p.1.sameKey k) (by grind)];exact g
  ·have h2:AT (.map r) k=true:=by
    have h3:(a.1.sameKey k || r.any fun p=>p.1.sameKey k)=true:=h;rw[Bool.eq_false_iff.2 hk,Bool.false_or] at h3;exact h3
   obtain⟨x',e1,e2⟩:=Pt.at k t h2;refine⟨x',fun z=>?_,?_⟩
   ·rw[B2,Jq (p:=fun p=>p.1.sameKey k) hk];exact e1 z
   ·rw[B2,Jq (p:=fun p=>p.1.sameKey k) (by grind)];exact e2
theorem Pt.canon{P:A1->To->Prop}{l:List (Lit×A2 A1)}{m:List (Lit×To)}(h:Pt P l m)(c:CH (.map l:A2 A1)):CH (.map m:A2 Unit):=by
 obtain⟨es,he,hp,hk⟩:=c;injection he with he;subst he;refine⟨m,rfl,?_,?_⟩
 ·have h1:(l.map CL).Pairwise (fun a b=>a.before b=true):=List.pairwise_map.2 hp;rw[h.fsts] at h1
  grind
 ·intro p q0;have h1:p.1∈l.map CL:=by rw[h.fsts];grind
  grind
theorem V4{es es':List (Lit×To)}(c:CH (.map es:A2 Unit))(c':CH (.map es':A2 Unit))(hl:es.length=es'.length)
  (h:∀k,AT (.map es:A2 Unit) k=true->AT (.map es':A2 Unit) k=true/\(AS es).atKey k .nil=(AS es').atKey k .nil):Ap es=Ap es':=by
 obtain⟨_,he,hp,hk⟩:=c;injection he with he;subst he;obtain⟨_,he,q8,q9⟩:=c';injection he with he;subst he;have q6:=apart_of_rising hp;have q0:=apart_of_rising q8;have q5:∀p∈es,p∈es':=fun p q4=>by
  have h1:AT (.map es:A2 Unit) p.1=true:=Dp.2 ⟨p,q4,WideAt.sameKey_self (hk p q4)⟩;obtain⟨h2,h3⟩:=h p.1 h1;obtain⟨q,hq,hs⟩:=Dp.1 (show es'.any (fun q=>q.1.sameKey p.1)=true from h2);have e1:q.1=p.1:=CR hs;have e2:=Dt .nil (hk p q4) q6 (by omega);have e3:=Dt .nil (q9 q hq) q0 (by omega)
  grind
 have hne:es.Pairwise (· ≠ ·):=q6.imp (by grind)
 have q7:=NT hne q5 (by omega);unfold Ap;rw[eq_of_mem_rising hp q8 (by grind)]
theorem TI{es es':List (Lit×To)}{k:Lit}(h1:AT (.map es:A2 Unit) k=true)(h:AT (.map es':A2 Unit) k=true->(AS es).atKey k .nil≠(AS es').atKey k .nil):Ap es≠Ap es':=by
 intro e;unfold Ap at e
 grind
end Go.Proofs.YtdpomdelmdofmaaGreatDoor

set_option maxRecDepth 100000
set_option maxHeartbeats 8000000
namespace Go.Proofs.YtdpomdelmdofmaaGreatDoor
open Go.Proofs.Tryz
open Go.RowKit Go.Maps
def SP(es es':List (Lit×To))(left:Lit->Bool):Prop:=
 ∀k,AT (.map es:A2 Unit) k=true->left k=false->AT (.map es':A2 Unit) k=true/\(AS es).atKey k .nil=(AS es').atKey k .nil
theorem SP.step{es es':List (Lit×To)}{left:Lit->Bool}{kl:Lit}(h:SP es es' left)(h2:AT (.map es':A2 Unit) kl=true)(h3:(AS es).atKey kl .nil=(AS es').atKey kl .nil):SP es es' (fun z=>left z && !z.sameKey kl):=by
 intro k hk hl;cases h4:left k
 ·exact h k hk h4
 ·have h5:(left k && !k.sameKey kl)=false:=hl;rw[h4] at h5;have:k=kl:=CR (by grind)
  grind
theorem BJ{w w':D0}(h:w.grownBy w' none):CD w.heap.size w w':=(Bs _ _).grown h (A3 _) (fun j hj=>by cases hj)
theorem Bh{w w':D0}(h:CD w.heap.size w w'):w.grownBy w' none:=⟨h.os,h.tape,h.output,h.size,fun i hi _=>h.block i hi⟩
theorem Cg{v x:A1}{d:A2 A1}{ps:List MemPlace}(h:RV v=some (d,ps))(e:d=.held x):v=x/\ps=[]:=by
 have h1:=D1 h
 grind
theorem Za{f:Nat}(hS:Ga f){w:D0}{F F':Nat->Prop}{m m' n n':Nat}{D D':List (Lit×A2 A1)}{es es':List (Lit×To)}(ho:w.ownsMap AI 9 RV m n (.map D))(qi:w.ownsMap AI 9 RV m' n' (.map D'))
  (hp:Pt (Rep f F w) D es) (qj:Pt (Rep f F' w) D' es'):
  D2 AI 113 #[.map (some m),.map (some m'),.func (.func 82) #[] #[]] w fun e w'=>e=.returned (.bool (veq (Ap es) (Ap es')))/\CD w.heap.size w w':=by
 have qb:=BE;have qr:=B3;have l1:=fun ty=>ho.len (t:=109) underlying109 ty;have l2:=fun ty=>qi.len (t:=109) underlying109 ty;have zh:=qi.lt;have C1:=Ab (hp.canon (ho.canon qb));have C2:=Ab (qj.canon (qi.canon qb));have HP:=Ab hp;have qm:=Ab qj;have HS:=Ab hS;have L1:=Ab hp.size;have L2:=Ab qj.size;clear hp qj hS;by_cases hsz:DD (.map D:A2 A1)=DD (.map D':A2 A1)
 ·have HZ:=Ab hsz
  go_enter func113,ntmps113
  go_wp2_with (first
   | (at_range;refine wpList_range_own _ rfl _ 109 rfl 9 80 qb underlying109 RV m n _ rfl ho ?_;intro w0 qt qw zi)
   | go_in)
  go_frame
  go_loopw [18] (fun _ wr=>∃ (left:Lit->Bool) (cnt:Nat),wr.ranges AI 9 RV m w.heap.size n (.map D) left cnt/\wr.ownsMap AI 9 RV m' n' (.map D')/\w.grownBy wr none/\Hid (SP es es' left))
   (fun _ wr=>wr.rangeLeft m w.heap.size)
  case atStart=>
   refine⟨_,_,qt,qi.kept qw (by simp),qw,?_⟩;intro k hk hl;rw[(Aa HP).has k,hk] at hl;cases hl
  case round=>
   obtain⟨left,cnt,z1,z8,qy,G⟩:=hrel
   go_wp2_with (first
    | (at_next;refine wpList_next_ranges _ rfl _ rfl 9 qb RV id id (fun key _ _=>⟨key,rfl⟩) (fun v _ _=>⟨v,rfl⟩) m w.heap.size n _ _ _ rfl z1 ?_ ?_)
    | go_in)
   ·intro _ hl0;have HV:=Ab (EV (V4 (Aa C1) (Aa C2) (by
     have h1:=Aa L1;have h2:=Aa L2;have h3:D.length=D'.length:=Aa HZ;omega) (fun k hk=>Aa G k hk (hl0 k))))
    go_wp2_with (fail)
    go_ret;exact⟨by rw[Aa HV];rfl,BJ qy⟩
   ·intro x c kl yd yp w1 cnt1 q9 zg hv qp qu hlt qx zj zf;have q0:w.grownBy w1 none:=qy.andThen qx (by grind);have q4:=z8.kept qx (by grind);have qe:DataW.held c=yd:=congrArg CL (D1 hv);subst qe;have q7:AT (.map D) kl=true:=has_true_of_atKey qp
    obtain⟨c',e1,qg⟩:=(Aa HP).at kl q7;have e2:c'=c:=by
     simp_all
    subst e2;have qf:AT (.map es:A2 Unit) kl=true:=by rw[<- (Aa HP).has kl];exact q7
    have zc:=Ab qp
    have qn:=Ab qg;have qv:=Ab qf;have ze:=Ab e1;clear qp qg qf e1 q7 hv;cases hh:AT (.map D':A2 A1) kl
    ·have q8:=Ab (Ep (TI (Aa qv) (fun h=>by
      rw[<- (Aa qm).has kl,hh] at h;cases h)))
     go_wp2_with (first
      | (at_lookup;refine A6 _ rfl _ _ 109 rfl 9 80 qb underlying109 RV (qr _) (.held (.pointer none)) [] rfl m' n' (.map D') rfl q4 _ kl rfl q9 ?_;intro v2 z6 qe;rw[hh];go_frame)
      | go_in)
     go_ret;exact⟨by rw[Aa q8];rfl,BJ q0⟩
    ·obtain⟨c2,e4,q6⟩:=(Aa qm).at kl hh;have q5:=Ab (Aa HS F F' w1 c' c2 _ _ ((Aa qn).bel (BJ q0)) (q6.bel (BJ q0)));have qz:AT (.map es':A2 Unit) kl=true:=by rw[<- (Aa qm).has kl];exact hh
     have qk:=Ab qz;clear qz q6;by_cases qd:(AS es).atKey kl .nil=(AS es').atKey kl .nil
     ·have zb:=Ab (EV qd);have z7:=Ab qd;clear qd
      go_wp2_with (first
       | (at_lookup;refine A6 _ rfl _ _ 109 rfl 9 80 qb underlying109 RV (qr _) (.held (.pointer none)) [] rfl m' n' (.map D') rfl q4 _ kl rfl q9 ?_;intro v2 z6 qe;rw[hh];obtain⟨rfl,_⟩:=Cg qe (e4 _);go_frame;have hc:=Aa q5;rw[Aa zb] at hc)
       )
      refine hc.mono ?_;rintro e w2 ⟨rfl,hb2⟩
      go_wp2_with (fail);have qh:=qu.kept (Bh hb2) (by simp) (by simp)
      have qq:=q0.andThen (Bh hb2) (fun j hj=>by cases hj);have qo:=q4.kept (Bh hb2) (by simp)
      go_roundw
      case rel=>exact⟨_,cnt1,qh,qo,qq,(Aa G).step (Aa qk) (Aa z7)⟩
      grind [Ap,qh.left_eq,z1.left_eq]
     ·have za:=Ab (Ep qd);have q8:=Ab (Ep (TI (es':=es') (Aa qv) (fun _=>qd)));clear qd
      go_wp2_with (first
       | (at_lookup;refine A6 _ rfl _ _ 109 rfl 9 80 qb underlying109 RV (qr _) (.held (.pointer none)) [] rfl m' n' (.map D') rfl q4 _ kl rfl q9 ?_;intro v2 z6 qe;rw[hh];obtain⟨rfl,_⟩:=Cg qe (e4 _);go_frame;have hc:=Aa q5;rw[Aa za] at hc)
       )
      refine hc.mono ?_;rintro e w2 ⟨rfl,hb2⟩
      go_wp2_with (fail)
      go_ret;exact⟨by rw[Aa q8];rfl,BJ (q0.andThen (Bh hb2) (fun j hj=>by cases hj))⟩
 ·have hne:¬ ((DD (.map D:A2 A1):Int)=(DD (.map D':A2 A1):Int)):=by omega
  have HV:=Ab (Ep (a:=Ap es) (b:=Ap es') (fun e=>by
   unfold Ap at e;injection e with e;have h1:=Aa L1;have h2:=Aa L2;rw[e] at h1;exact hsz (show D.length=D'.length by omega)))
  go_enter func113,ntmps113
  go_wp2_with (fail)
  go_ret;exact⟨by rw[Aa HV];rfl,Bs _ _⟩
end Go.Proofs.YtdpomdelmdofmaaGreatDoor
