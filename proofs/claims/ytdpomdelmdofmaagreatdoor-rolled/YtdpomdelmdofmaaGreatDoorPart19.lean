/-
  More of the library's contracts, laid in plain words: for pointers.
-/
import Derived.Test.YtdpomdelmdofmaaGreatDoorPart03
import Derived.Shelf.LaysC
import Derived.Shelf.Strings.Cut
import Derived.Shelf.Strings.Shaped
import Derived.Shelf.Strings.Split
import Derived.Shelf.Strings.SlTrimAscii
import Derived.Shelf.Strconv.AtoiAll
import Derived.Shelf.Unicode.ValidAny
import Derived.Test.YtdpomdelmdofmaaGreatDoorPart16
import Derived.Maps.Range
import Derived.Maps.RangeWalk
import Derived.Maps.Ext
import Derived.Sort.MapsRangeIn
namespace Go.Proofs
open Go.Shelf
def Tryz.lays160_ren:Go.Shelf.Ren:=⟨fun | 160=>195 | 232=>235 | 231=>234 | 227=>236 | 234=>238 | 233=>237 | 236=>240 | 235=>239 | 228=>281 | 271=>283 | 151=>282 | 197=>230 | 120=>307 | 152=>306 | 260=>276 | 137=>314 | 119=>315 | 224=>279 | 225=>278 | 217=>277 | 266=>304 | n=>n,fun | 9=>9 | 4=>4 | 3=>3 | 5=>5 | 117=>295 | 116=>294 | 0=>0 | 124=>298 | 21=>21 | 105=>289 | 46=>201 | 119=>207 | 139=>210 | 138=>209 | n=>n,fun | 3=>1 | 4=>2 | n=>n⟩
theorem Tryz.lays160:Go.Proofs.Lays.n160 Tryz.prog Tryz.lays160_ren:={
 mixed:=by kernel_rfl
 f119:=Tryz.func315.trans (congrArg some (by kernel_rfl))
 f120:=Tryz.func307.trans (congrArg some (by kernel_rfl))
 f137:=Tryz.func314.trans (congrArg some (by kernel_rfl))
 f151:=Tryz.func282.trans (congrArg some (by kernel_rfl))
 f152:=Tryz.func306.trans (congrArg some (by kernel_rfl))
 f160:=Tryz.func195.trans (congrArg some (by kernel_rfl))
 f197:=Tryz.func230.trans (congrArg some (by kernel_rfl))
 f217:=Tryz.func277.trans (congrArg some (by kernel_rfl))
 f224:=Tryz.func279.trans (congrArg some (by kernel_rfl))
 f225:=Tryz.func278.trans (congrArg some (by kernel_rfl))
 f227:=Tryz.func236.trans (congrArg some (by kernel_rfl))
 f228:=Tryz.func281.trans (congrArg some (by kernel_rfl))
 f231:=Tryz.func234.trans (congrArg some (by kernel_rfl))
 f232:=Tryz.func235.trans (congrArg some (by kernel_rfl))
 f233:=Tryz.func237.trans (congrArg some (by kernel_rfl))
 f234:=Tryz.func238.trans (congrArg some (by kernel_rfl))
 f235:=Tryz.func239.trans (congrArg some (by kernel_rfl))
 f236:=Tryz.func240.trans (congrArg some (by kernel_rfl))
 f260:=Tryz.func276.trans (congrArg some (by kernel_rfl))
 f266:=Tryz.func304.trans (congrArg some (by kernel_rfl))
 f271:=Tryz.func283.trans (congrArg some (by kernel_rfl))
 t0:=Tryz.underlying0
 a0:=Tryz.isAgg0
 z0:=Tryz.sizeOf0
 v0:=Tryz.zeroValue0
 t3:=Tryz.underlying3
 a3:=Tryz.isAgg3
 z3:=Tryz.sizeOf3
 v3:=Tryz.zeroValue3
 t4:=Tryz.underlying4
 a4:=Tryz.isAgg4
 z4:=Tryz.sizeOf4
 v4:=Tryz.zeroValue4
 t5:=Tryz.underlying5
 a5:=Tryz.isAgg5
 z5:=Tryz.sizeOf5
 v5:=Tryz.zeroValue5
 t9:=Tryz.underlying9
 a9:=Tryz.isAgg9
 z9:=Tryz.sizeOf9
 v9:=Tryz.zeroValue9
 t21:=Tryz.underlying21
 a21:=Tryz.isAgg21
 z21:=Tryz.sizeOf21
 v21:=Tryz.zeroValue21
 t46:=Tryz.underlying201
 a46:=Tryz.isAgg201
 z46:=Tryz.sizeOf201
 v46:=Tryz.zeroValue201
 t105:=Tryz.underlying289
 a105:=Tryz.isAgg289
 z105:=Tryz.sizeOf289
 v105:=Tryz.zeroValue289
 t116:=Tryz.underlying294
 a116:=Tryz.isAgg294
 z116:=Tryz.sizeOf294
 t117:=Tryz.underlying295
 a117:=Tryz.isAgg295
 z117:=Tryz.sizeOf295
 v117:=Tryz.zeroValue295
 t119:=Tryz.underlying207
 a119:=Tryz.isAgg207
 z119:=Tryz.sizeOf207
 t124:=Tryz.underlying298
 a124:=Tryz.isAgg298
 z124:=Tryz.sizeOf298
 v124:=Tryz.zeroValue298
 t138:=Tryz.underlying209
 a138:=Tryz.isAgg209
 z138:=Tryz.sizeOf209
 v138:=Tryz.zeroValue209
 t139:=Tryz.underlying210
 a139:=Tryz.isAgg210
 z139:=Tryz.sizeOf210
 v139:=Tryz.zeroValue210
 g3:=by kernel_rfl
 g4:=by kernel_rfl }
def Tryz.laysC172_ren:Go.Shelf.Ren:=⟨fun | 172=>196 | 244=>241 | 245=>242 | 247=>284 | 279=>285 | 280=>286 | 281=>287 | 282=>288 | 287=>308 | 316=>297 | 171=>94 | 205=>309 | 321=>316 | 322=>317 | 243=>131 | 246=>173 | 283=>212 | 284=>213 | 285=>214 | 286=>215 | 129=>257 | 317=>256 | 318=>258 | 319=>259 | 320=>260 | 337=>293 | 338=>294 | n=>n,fun | 9=>9 | 3=>3 | 75=>162 | 76=>163 | 4=>4 | 5=>5 | 167=>325 | 37=>117 | 0=>0 | 85=>326 | 2=>2 | 168=>328 | 53=>252 | 175=>345 | 46=>201 | 210=>348 | 127=>166 | 145=>360 | 143=>358 | 21=>21 | 171=>274 | 173=>277 | 212=>312 | 51=>313 | 20=>20 | 213=>314 | 232=>352 | 233=>353 | 80=>40 | n=>n,fun | 15=>8 | 16=>9 | 17=>5 | 18=>10 | 19=>11 | n=>n⟩
theorem Tryz.laysC172:Go.Proofs.LaysC.n172 Tryz.prog Tryz.laysC172_ren:={
 mixed:=by kernel_rfl
 f129:=Tryz.func257.trans (congrArg some (by kernel_rfl))
 f171:=Tryz.func94.trans (congrArg some (by kernel_rfl))
 f172:=Tryz.func196.trans (congrArg some (by kernel_rfl))
 f205:=Tryz.func309.trans (congrArg some (by kernel_rfl))
 f243:=Tryz.func131.trans (congrArg some (by kernel_rfl))
 f244:=Tryz.func241.trans (congrArg some (by kernel_rfl))
 f245:=Tryz.func242.trans (congrArg some (by kernel_rfl))
 f246:=Tryz.func173.trans (congrArg some (by kernel_rfl))
 f247:=Tryz.func284.trans (congrArg some (by kernel_rfl))
 f279:=Tryz.func285.trans (congrArg some (by kernel_rfl))
 f280:=Tryz.func286.trans (congrArg some (by kernel_rfl))
 f281:=Tryz.func287.trans (congrArg some (by kernel_rfl))
 f282:=Tryz.func288.trans (congrArg some (by kernel_rfl))
 f283:=Tryz.func212.trans (congrArg some (by kernel_rfl))
 f284:=Tryz.func213.trans (congrArg some (by kernel_rfl))
 f285:=Tryz.func214.trans (congrArg some (by kernel_rfl))
 f286:=Tryz.func215.trans (congrArg some (by kernel_rfl))
 f287:=Tryz.func308.trans (congrArg some (by kernel_rfl))
 f316:=Tryz.func297.trans (congrArg some (by kernel_rfl))
 f317:=Tryz.func256.trans (congrArg some (by kernel_rfl))
 f318:=Tryz.func258.trans (congrArg some (by kernel_rfl))
 f319:=Tryz.func259.trans (congrArg some (by kernel_rfl))
 f320:=Tryz.func260.trans (congrArg some (by kernel_rfl))
 f321:=Tryz.func316.trans (congrArg some (by kernel_rfl))
 f322:=Tryz.func317.trans (congrArg some (by kernel_rfl))
 f337:=Tryz.func293.trans (congrArg some (by kernel_rfl))
 f338:=Tryz.func294.trans (congrArg some (by kernel_rfl))
 t0:=Tryz.underlying0
 a0:=Tryz.isAgg0
 z0:=Tryz.sizeOf0
 v0:=Tryz.zeroValue0
 t2:=Tryz.underlying2
 a2:=Tryz.isAgg2
 z2:=Tryz.sizeOf2
 v2:=Tryz.zeroValue2
 t3:=Tryz.underlying3
 a3:=Tryz.isAgg3
 z3:=Tryz.sizeOf3
 v3:=Tryz.zeroValue3
 t4:=Tryz.underlying4
 a4:=Tryz.isAgg4
 z4:=Tryz.sizeOf4
 v4:=Tryz.zeroValue4
 t5:=Tryz.underlying5
 a5:=Tryz.isAgg5
 z5:=Tryz.sizeOf5
 v5:=Tryz.zeroValue5
 t9:=Tryz.underlying9
 a9:=Tryz.isAgg9
 z9:=Tryz.sizeOf9
 v9:=Tryz.zeroValue9
 t20:=Tryz.underlying20
 a20:=Tryz.isAgg20
 z20:=Tryz.sizeOf20
 v20:=Tryz.zeroValue20
 t21:=Tryz.underlying21
 a21:=Tryz.isAgg21
 z21:=Tryz.sizeOf21
 v21:=Tryz.zeroValue21
 t37:=Tryz.underlying117
 a37:=Tryz.isAgg117
 z37:=Tryz.sizeOf117
 v37:=Tryz.zeroValue117
 t46:=Tryz.underlying201
 a46:=Tryz.isAgg201
 z46:=Tryz.sizeOf201
 v46:=Tryz.zeroValue201
 t51:=Tryz.underlying313
 a51:=Tryz.isAgg313
 z51:=Tryz.sizeOf313
 v51:=Tryz.zeroValue313
 t53:=Tryz.underlying252
 a53:=Tryz.isAgg252
 z53:=Tryz.sizeOf252
 v53:=Tryz.zeroValue252
 t75:=Tryz.underlying162
 a75:=Tryz.isAgg162
 z75:=Tryz.sizeOf162
 v75:=Tryz.zeroValue162
 t76:=Tryz.underlying163
 a76:=Tryz.isAgg163
 z76:=Tryz.sizeOf163
 v76:=Tryz.zeroValue163
 t85:=Tryz.underlying326
 a85:=Tryz.isAgg326
 z85:=Tryz.sizeOf326
 v85:=Tryz.zeroValue326
 t127:=Tryz.underlying166
 a127:=Tryz.isAgg166
 z127:=Tryz.sizeOf166
 v127:=Tryz.zeroValue166
 t143:=Tryz.underlying358
 a143:=Tryz.isAgg358
 z143:=Tryz.sizeOf358
 v143:=Tryz.zeroValue358
 t145:=Tryz.underlying360
 a145:=Tryz.isAgg360
 z145:=Tryz.sizeOf360
 v145:=Tryz.zeroValue360
 t167:=Tryz.underlying325
 a167:=Tryz.isAgg325
 z167:=Tryz.sizeOf325
 v167:=Tryz.zeroValue325
 t168:=Tryz.underlying328
 a168:=Tryz.isAgg328
 z168:=Tryz.sizeOf328
 v168:=Tryz.zeroValue328
 t171:=Tryz.underlying274
 a171:=Tryz.isAgg274
 z171:=Tryz.sizeOf274
 v171:=Tryz.zeroValue274
 t173:=Tryz.underlying277
 a173:=Tryz.isAgg277
 z173:=Tryz.sizeOf277
 v173:=Tryz.zeroValue277
 t175:=Tryz.underlying345
 a175:=Tryz.isAgg345
 z175:=Tryz.sizeOf345
 v175:=Tryz.zeroValue345
 t210:=Tryz.underlying348
 a210:=Tryz.isAgg348
 z210:=Tryz.sizeOf348
 v210:=Tryz.zeroValue348
 t212:=Tryz.underlying312
 a212:=Tryz.isAgg312
 z212:=Tryz.sizeOf312
 v212:=Tryz.zeroValue312
 t213:=Tryz.underlying314
 a213:=Tryz.isAgg314
 z213:=Tryz.sizeOf314
 t232:=Tryz.underlying352
 a232:=Tryz.isAgg352
 z232:=Tryz.sizeOf352
 v232:=Tryz.zeroValue352
 t233:=Tryz.underlying353
 a233:=Tryz.isAgg353
 z233:=Tryz.sizeOf353
 v233:=Tryz.zeroValue353
 g15:=by kernel_rfl
 g16:=by kernel_rfl
 g17:=by kernel_rfl
 g18:=by kernel_rfl
 g19:=by kernel_rfl
 t80:=Tryz.underlying40
 a80:=Tryz.isAgg40
 z80:=Tryz.sizeOf40
 v80:=Tryz.zeroValue40
 i0:=by kernel_rfl
 i2:=by kernel_rfl
 i3:=by kernel_rfl
 i4:=by kernel_rfl
 i5:=by kernel_rfl
 i9:=by kernel_rfl
 i20:=by kernel_rfl
 i21:=by kernel_rfl
 i37:=by kernel_rfl
 i46:=by kernel_rfl
 i51:=by kernel_rfl
 i53:=by kernel_rfl
 i75:=by kernel_rfl
 i76:=by kernel_rfl
 i80:=by kernel_rfl
 i85:=by kernel_rfl
 i127:=by kernel_rfl
 i143:=by kernel_rfl
 i145:=by kernel_rfl
 i167:=by kernel_rfl
 i168:=by kernel_rfl
 i171:=by kernel_rfl
 i173:=by kernel_rfl
 i175:=by kernel_rfl
 i210:=by kernel_rfl
 i212:=by kernel_rfl
 i232:=by kernel_rfl
 i233:=by kernel_rfl
 m15:=by kernel_rfl
 m16:=by kernel_rfl
 m17:=by kernel_rfl
 m18:=by kernel_rfl
 m19:=by kernel_rfl
 c0:=by kernel_rfl
 c2:=by kernel_rfl
 c3:=by kernel_rfl
 c4:=by kernel_rfl
 c5:=by kernel_rfl
 c9:=by kernel_rfl
 c20:=by kernel_rfl
 c21:=by kernel_rfl
 c37:=by kernel_rfl
 c46:=by kernel_rfl
 c51:=by kernel_rfl
 c53:=by kernel_rfl
 c75:=by kernel_rfl
 c76:=by kernel_rfl
 c80:=by kernel_rfl
 c85:=by kernel_rfl
 c127:=by kernel_rfl
 c143:=by kernel_rfl
 c145:=by kernel_rfl
 c167:=by kernel_rfl
 c168:=by kernel_rfl
 c171:=by kernel_rfl
 c173:=by kernel_rfl
 c175:=by kernel_rfl
 c210:=by kernel_rfl
 c212:=by kernel_rfl
 c213:=by kernel_rfl
 c232:=by kernel_rfl
 c233:=by kernel_rfl }
def Tryz.lays145_ren:Go.Shelf.Ren:=⟨fun | 145=>145 | 220=>193 | 219=>232 | 217=>277 | 225=>278 | 224=>279 | 267=>280 | 266=>304 | 314=>305 | n=>n,fun | 9=>9 | 4=>4 | 59=>212 | 3=>3 | 5=>5 | 46=>201 | 146=>342 | 51=>313 | n=>n,fun | 1=>6 | n=>n⟩
theorem Tryz.lays145:Go.Proofs.Lays.n145 Tryz.prog Tryz.lays145_ren:={
 mixed:=by kernel_rfl
 f145:=Tryz.func145.trans (congrArg some (by kernel_rfl))
 f217:=Tryz.func277.trans (congrArg some (by kernel_rfl))
 f219:=Tryz.func232.trans (congrArg some (by kernel_rfl))
 f220:=Tryz.func193.trans (congrArg some (by kernel_rfl))
 f224:=Tryz.func279.trans (congrArg some (by kernel_rfl))
 f225:=Tryz.func278.trans (congrArg some (by kernel_rfl))
 f266:=Tryz.func304.trans (congrArg some (by kernel_rfl))
 f267:=Tryz.func280.trans (congrArg some (by kernel_rfl))
 f314:=Tryz.func305.trans (congrArg some (by kernel_rfl))
 t3:=Tryz.underlying3
 a3:=Tryz.isAgg3
 z3:=Tryz.sizeOf3
 v3:=Tryz.zeroValue3
 t4:=Tryz.underlying4
 a4:=Tryz.isAgg4
 z4:=Tryz.sizeOf4
 v4:=Tryz.zeroValue4
 t5:=Tryz.underlying5
 a5:=Tryz.isAgg5
 z5:=Tryz.sizeOf5
 v5:=Tryz.zeroValue5
 t9:=Tryz.underlying9
 a9:=Tryz.isAgg9
 z9:=Tryz.sizeOf9
 v9:=Tryz.zeroValue9
 t46:=Tryz.underlying201
 a46:=Tryz.isAgg201
 z46:=Tryz.sizeOf201
 v46:=Tryz.zeroValue201
 t51:=Tryz.underlying313
 a51:=Tryz.isAgg313
 z51:=Tryz.sizeOf313
 v51:=Tryz.zeroValue313
 t59:=Tryz.underlying212
 a59:=Tryz.isAgg212
 z59:=Tryz.sizeOf212
 v59:=Tryz.zeroValue212
 t146:=Tryz.underlying342
 a146:=Tryz.isAgg342
 z146:=Tryz.sizeOf342
 v146:=Tryz.zeroValue342
 g1:=by kernel_rfl }
open Go.RowKit Go.Lib in
theorem Tryz.strings_Cut (s sep:ByteArray) (m:Int) (w:World) (hs:s.size < 4294967281) (hm:w.cell? ⟨6,0,none⟩ = some (.int .i64 m)) :
  Calls Tryz.prog 145 #[.string s,.string sep] w fun e w'=>e = .returned (.tuple #[.string ⟨(Lib.cut s.data.toList sep.data.toList).1.toArray⟩,.string ⟨(Lib.cut s.data.toList sep.data.toList).2.1.toArray⟩,.bool (Lib.cut s.data.toList sep.data.toList).2.2]) ∧ ∃ n,w' = w.drewN n:=Any.strings_Cut Tryz.lays145 s sep m w hs hm
def Tryz.lays221_ren:Go.Shelf.Ren:=⟨fun | 221=>144 | 268=>190 | 138=>191 | 143=>192 | 195=>229 | 197=>230 | 218=>231 | 219=>232 | 260=>276 | 217=>277 | 225=>278 | 224=>279 | 267=>280 | 266=>304 | 314=>305 | n=>n,fun | 9=>9 | 3=>3 | 31=>59 | 4=>4 | 0=>0 | 105=>289 | 21=>21 | 5=>5 | 46=>201 | 119=>207 | 139=>210 | 138=>209 | 146=>342 | 51=>313 | n=>n,fun | 1=>6 | 3=>1 | 4=>2 | n=>n⟩
def Tryz.lays146_ren:Go.Shelf.Ren:=⟨fun | 146=>109 | 221=>144 | 268=>190 | 138=>191 | 143=>192 | 195=>229 | 197=>230 | 218=>231 | 219=>232 | 260=>276 | 217=>277 | 225=>278 | 224=>279 | 267=>280 | 266=>304 | 314=>305 | n=>n,fun | 9=>9 | 31=>59 | 3=>3 | 4=>4 | 0=>0 | 105=>289 | 21=>21 | 5=>5 | 46=>201 | 119=>207 | 139=>210 | 138=>209 | 146=>342 | 51=>313 | n=>n,fun | 1=>6 | 3=>1 | 4=>2 | n=>n⟩
theorem Tryz.lays146:Go.Proofs.Lays.n146 Tryz.prog Tryz.lays146_ren:={
 mixed:=by kernel_rfl
 f138:=Tryz.func191.trans (congrArg some (by kernel_rfl))
 f143:=Tryz.func192.trans (congrArg some (by kernel_rfl))
 f146:=Tryz.func109.trans (congrArg some (by kernel_rfl))
 f195:=Tryz.func229.trans (congrArg some (by kernel_rfl))
 f197:=Tryz.func230.trans (congrArg some (by kernel_rfl))
 f217:=Tryz.func277.trans (congrArg some (by kernel_rfl))
 f218:=Tryz.func231.trans (congrArg some (by kernel_rfl))
 f219:=Tryz.func232.trans (congrArg some (by kernel_rfl))
 f221:=Tryz.func144.trans (congrArg some (by kernel_rfl))
 f224:=Tryz.func279.trans (congrArg some (by kernel_rfl))
 f225:=Tryz.func278.trans (congrArg some (by kernel_rfl))
 f260:=Tryz.func276.trans (congrArg some (by kernel_rfl))
 f266:=Tryz.func304.trans (congrArg some (by kernel_rfl))
 f267:=Tryz.func280.trans (congrArg some (by kernel_rfl))
 f268:=Tryz.func190.trans (congrArg some (by kernel_rfl))
 f314:=Tryz.func305.trans (congrArg some (by kernel_rfl))
 t0:=Tryz.underlying0
 a0:=Tryz.isAgg0
 z0:=Tryz.sizeOf0
 v0:=Tryz.zeroValue0
 t3:=Tryz.underlying3
 a3:=Tryz.isAgg3
 z3:=Tryz.sizeOf3
 v3:=Tryz.zeroValue3
 t4:=Tryz.underlying4
 a4:=Tryz.isAgg4
 z4:=Tryz.sizeOf4
 v4:=Tryz.zeroValue4
 t5:=Tryz.underlying5
 a5:=Tryz.isAgg5
 z5:=Tryz.sizeOf5
 v5:=Tryz.zeroValue5
 t9:=Tryz.underlying9
 a9:=Tryz.isAgg9
 z9:=Tryz.sizeOf9
 v9:=Tryz.zeroValue9
 t21:=Tryz.underlying21
 a21:=Tryz.isAgg21
 z21:=Tryz.sizeOf21
 v21:=Tryz.zeroValue21
 t31:=Tryz.underlying59
 a31:=Tryz.isAgg59
 z31:=Tryz.sizeOf59
 v31:=Tryz.zeroValue59
 t46:=Tryz.underlying201
 a46:=Tryz.isAgg201
 z46:=Tryz.sizeOf201
 v46:=Tryz.zeroValue201
 t51:=Tryz.underlying313
 a51:=Tryz.isAgg313
 z51:=Tryz.sizeOf313
 v51:=Tryz.zeroValue313
 t105:=Tryz.underlying289
 a105:=Tryz.isAgg289
 z105:=Tryz.sizeOf289
 v105:=Tryz.zeroValue289
 t119:=Tryz.underlying207
 a119:=Tryz.isAgg207
 z119:=Tryz.sizeOf207
 t138:=Tryz.underlying209
 a138:=Tryz.isAgg209
 z138:=Tryz.sizeOf209
 v138:=Tryz.zeroValue209
 t139:=Tryz.underlying210
 a139:=Tryz.isAgg210
 z139:=Tryz.sizeOf210
 v139:=Tryz.zeroValue210
 t146:=Tryz.underlying342
 a146:=Tryz.isAgg342
 z146:=Tryz.sizeOf342
 v146:=Tryz.zeroValue342
 g1:=by kernel_rfl
 g3:=by kernel_rfl
 g4:=by kernel_rfl }
def Tryz.lays196_ren:Go.Shelf.Ren:=⟨fun | 196=>108 | 259=>143 | n=>n,fun | 9=>9 | 4=>4 | 3=>3 | 5=>5 | 12=>12 | 119=>207 | 0=>0 | 46=>201 | 139=>210 | 138=>209 | 53=>252 | n=>n,fun | 3=>1 | 4=>2 | n=>n⟩
theorem Tryz.lays196:Go.Proofs.Lays.n196 Tryz.prog Tryz.lays196_ren:={
 mixed:=by kernel_rfl
 f196:=Tryz.func108.trans (congrArg some (by kernel_rfl))
 f259:=Tryz.func143.trans (congrArg some (by kernel_rfl))
 t0:=Tryz.underlying0
 a0:=Tryz.isAgg0
 z0:=Tryz.sizeOf0
 v0:=Tryz.zeroValue0
 t3:=Tryz.underlying3
 a3:=Tryz.isAgg3
 z3:=Tryz.sizeOf3
 v3:=Tryz.zeroValue3
 t4:=Tryz.underlying4
 a4:=Tryz.isAgg4
 z4:=Tryz.sizeOf4
 v4:=Tryz.zeroValue4
 t5:=Tryz.underlying5
 a5:=Tryz.isAgg5
 z5:=Tryz.sizeOf5
 v5:=Tryz.zeroValue5
 t9:=Tryz.underlying9
 a9:=Tryz.isAgg9
 z9:=Tryz.sizeOf9
 v9:=Tryz.zeroValue9
 t12:=Tryz.underlying12
 a12:=Tryz.isAgg12
 z12:=Tryz.sizeOf12
 v12:=Tryz.zeroValue12
 t46:=Tryz.underlying201
 a46:=Tryz.isAgg201
 z46:=Tryz.sizeOf201
 v46:=Tryz.zeroValue201
 t53:=Tryz.underlying252
 a53:=Tryz.isAgg252
 z53:=Tryz.sizeOf252
 v53:=Tryz.zeroValue252
 t119:=Tryz.underlying207
 a119:=Tryz.isAgg207
 z119:=Tryz.sizeOf207
 t138:=Tryz.underlying209
 a138:=Tryz.isAgg209
 z138:=Tryz.sizeOf209
 v138:=Tryz.zeroValue209
 t139:=Tryz.underlying210
 a139:=Tryz.isAgg210
 z139:=Tryz.sizeOf210
 v139:=Tryz.zeroValue210
 g3:=by kernel_rfl
 g4:=by kernel_rfl }
end Go.Proofs

namespace Go.Proofs.YtdpomdelmdofmaaGreatDoor
open Go.RowKit
theorem owns_cell1 {w:World} {B e n:Nat} {v:Value} {xs:List Value} (h:w.ownsRow B e 1 v n xs) (hpos:0 < n):∃ g cap,v = .slice (some ⟨g,0,none⟩) n cap ∧ n ≤ cap ∧ cap ≤ maxLen ∧ g < w.heap.size ∧ ∀ k (hk:k < xs.length),w.cell? ⟨g,k,none⟩ = some xs[k]:=by
 obtain ⟨hlen,h⟩:=h
 rcases h with ⟨_,h0⟩ | ⟨g,cap,cur,h1,_,h3,h4,h5,h6,h7⟩
 ·omega
 ·refine ⟨g,cap,h1,h4,h5,(Array.getElem?_eq_some_iff.1 h3).1,fun k hk=>?_⟩
  have hkc:k < cur.size:=by rw [h6]; omega
  have e:w.cell? ⟨g,k,none⟩ = cur[k]?:=by simp [World.cell?,h3]
  rw [e,Array.getElem?_eq_getElem hkc]
  congr 1
  have h8:xs[k]? = some cur[k]:=by
   rw [← h7,List.getElem?_take,if_pos (by omega)]
   simp
  rw [List.getElem?_eq_getElem hk] at h8
  exact (Option.some.inj h8).symm
section
variable {w:World} {b b':Nat}
set_option maxHeartbeats 4000000 in
theorem same_diff {k k':Int} {n n':Sp.Nm} {s s':Sp.By} {sl sl' mp mp':Value} (h:VB w b k n s sl mp) (h':VB w b' k' n' s' sl' mp') (hk:k ≠ k') :
  Calls Tryz.prog 82 #[.pointer (some ⟨b,0,none⟩),.pointer (some ⟨b',0,none⟩)] w fun e w'=>e = .returned (.bool false) ∧ Below w.heap.size w w':=by
 have c0:=h.c0
 have d0:=h'.c0
 have e0:(k == k') = false:=beq_eq_false_iff_ne.2 hk
 have e1:(k != k') = true:=by simpa using hk
 clear h h' hk
 go_enter Tryz.func82,Tryz.ntmps82
 go_wp2_with (fail)
 go_quiet (fail)
 go_wp2_with (fail)
 go_ret
 exact ⟨rfl,⟨rfl,rfl,rfl,Nat.le_refl _,fun _ _=>rfl⟩⟩
set_option maxHeartbeats 4000000 in
theorem same_word {k:Nat} (hk:k < 3) {n n':Sp.Nm} {s s':Sp.By} {sl sl' mp mp':Value} (h:VB w b k n s sl mp) (h':VB w b' k n' s' sl' mp') :
  Calls Tryz.prog 82 #[.pointer (some ⟨b,0,none⟩),.pointer (some ⟨b',0,none⟩)] w fun e w'=>e = .returned (.bool true) ∧ Below w.heap.size w w':=by
 have c0:=h.c0
 have d0:=h'.c0
 clear h h'
 have e3:((k:Int) == 3) = false:=by rw [beq_eq_false_iff_ne]; omega
 have e4:((k:Int) == 4) = false:=by rw [beq_eq_false_iff_ne]; omega
 have e5:((k:Int) == 5) = false:=by rw [beq_eq_false_iff_ne]; omega
 have e6:((k:Int) == 6) = false:=by rw [beq_eq_false_iff_ne]; omega
 go_enter Tryz.func82,Tryz.ntmps82
 go_wp2_with (fail)
 go_quiet (fail)
 go_wp2_with (fail)
 go_ret
 exact ⟨rfl,⟨rfl,rfl,rfl,Nat.le_refl _,fun _ _=>rfl⟩⟩
set_option maxHeartbeats 4000000 in
theorem same_str {n n':Sp.Nm} {s s':Sp.By} {sl sl' mp mp':Value} (h:VB w b 4 n s sl mp) (h':VB w b' 4 n' s' sl' mp') :
  Calls Tryz.prog 82 #[.pointer (some ⟨b,0,none⟩),.pointer (some ⟨b',0,none⟩)] w fun e w'=>e = .returned (.bool (s == s')) ∧ Below w.heap.size w w':=by
 have c0:=h.c0
 have d0:=h'.c0
 have c4:=h.c4
 have d4:=h'.c4
 clear h h'
 go_enter Tryz.func82,Tryz.ntmps82
 go_wp2_with (fail)
 go_quiet (fail)
 go_wp2_with (fail)
 go_quiet (fail)
 go_wp2_with (fail)
 go_ret
 exact ⟨by first | rfl | simp,⟨rfl,rfl,rfl,Nat.le_refl _,fun _ _=>rfl⟩⟩
set_option maxHeartbeats 4000000 in
theorem same_num {n n':Sp.Nm} {s s':Sp.By} {sl sl' mp mp':Value} (h:VB w b 3 n s sl mp) (h':VB w b' 3 n' s' sl' mp') :
  Calls Tryz.prog 82 #[.pointer (some ⟨b,0,none⟩),.pointer (some ⟨b',0,none⟩)] w fun e w'=>e = .returned (.bool (decide (n = n'))) ∧ Below w.heap.size w w':=by
 have c0:=h.c0
 have d0:=h'.c0
 have c1:=h.c1
 have d1:=h'.c1
 have c2:=h.c2
 have d2:=h'.c2
 have c3:=h.c3
 have d3:=h'.c3
 clear h h'
 obtain ⟨na,nb,nc⟩:=n
 obtain ⟨na',nb',nc'⟩:=n'
 simp only at c1 c2 c3 d1 d2 d3
 by_cases h2:nb = nb'
 ·have f2:(nb == nb') = true:=beq_iff_eq.2 h2
  by_cases h3:nc = nc'
  ·have f3:(nc == nc') = true:=beq_iff_eq.2 h3
   subst h2
   subst h3
   cases na <;> cases na'
   all_goals (
    go_enter Tryz.func82,Tryz.ntmps82
    go_wp2_with (fail)
    go_quiet (fail)
    go_wp2_with (fail)
    go_quiet (fail)
    go_wp2_with (fail)
    go_ret
    exact ⟨by simp,⟨rfl,rfl,rfl,Nat.le_refl _,fun _ _=>rfl⟩⟩)
  ·have f3:(nc == nc') = false:=beq_eq_false_iff_ne.2 h3
   subst h2
   have H3:=hide h3
   clear h3
   cases na <;> cases na'
   all_goals (
    go_enter Tryz.func82,Tryz.ntmps82
    go_wp2_with (fail)
    go_quiet (fail)
    go_wp2_with (fail)
    go_quiet (fail)
    go_wp2_with (fail)
    go_ret
    exact ⟨by have:=unhide H3; simp [this],⟨rfl,rfl,rfl,Nat.le_refl _,fun _ _=>rfl⟩⟩)
 ·have f2:(nb == nb') = false:=beq_eq_false_iff_ne.2 h2
  have H2:=hide h2
  clear h2
  cases na <;> cases na'
  all_goals (
   go_enter Tryz.func82,Tryz.ntmps82
   go_wp2_with (fail)
   go_quiet (fail)
   go_wp2_with (fail)
   go_quiet (fail)
   go_wp2_with (fail)
   go_ret
   exact ⟨by have:=unhide H2; simp [this],⟨rfl,rfl,rfl,Nat.le_refl _,fun _ _=>rfl⟩⟩)
end
end Go.Proofs.YtdpomdelmdofmaaGreatDoor

namespace Go.Proofs.YtdpomdelmdofmaaGreatDoor
open Go.RowKit
def SameOk (f:Nat):Prop:=∀ (F F':Nat → Prop) (w:World) (v v':Value) (a b:Sp.V),Rep f F w v a → Rep f F' w v' b → Calls Tryz.prog 82 #[v,v'] w fun e w'=>e = .returned (.bool (veq a b)) ∧ Below w.heap.size w w'
theorem Rep.bel {f:Nat} {F:Nat → Prop} {w w':World} {v:Value} {d:Sp.V} (h:Rep f F w v d) (hb:Below w.heap.size w w'):Rep f F w' v d:=h.move fun k h1 h2=>⟨hb.block k h2,h1⟩
theorem slice_nil {w:World} {B e n:Nat} {v:Value} {xs:List Value} (h:w.ownsRow B e 1 v n xs) (h0:n = 0):∃ a c,v = .slice a 0 c:=by
 rcases h.2 with ⟨e,_⟩ | ⟨g,cap,cur,e,_⟩
 ·exact ⟨none,0,e⟩
 ·exact ⟨_,cap,by rw [e,h0]⟩
theorem slice_form {w:World} {B e n:Nat} {v:Value} {xs:List Value} (h:w.ownsRow B e 1 v n xs):∃ a c,v = .slice a n c:=by
 rcases h.2 with ⟨e,h0⟩ | ⟨g,cap,cur,e,_⟩
 ·exact ⟨none,0,by rw [e,h0]⟩
 ·exact ⟨_,cap,e⟩
set_option maxRecDepth 100000 in
set_option maxHeartbeats 8000000 in
theorem eqS_any {f:Nat} (hS:SameOk f) {w:World} {F F':Nat → Prop} {B B':Nat} {sl sl':Value} {ps ps':List Value} {es es':List Sp.V} (ho:w.ownsRow B 80 1 sl ps.length ps) (ho':w.ownsRow B' 80 1 sl' ps'.length ps')
  (ha:Al (Rep f F w) ps es) (ha':Al (Rep f F' w) ps' es') (hmx:ps.length ≤ maxLen) (hmx':ps'.length ≤ maxLen) :
  Calls Tryz.prog 112 #[sl,sl',.func (.func 82) #[] #[]] w fun e w'=>e = .returned (.bool (veq (Sp.vArr es) (Sp.vArr es'))) ∧ Below w.heap.size w w':=by
 have hl:=ha.length
 have hl':=ha'.length
 obtain ⟨N,hN⟩:∃ N,N = ps.length:=⟨_,rfl⟩
 obtain ⟨N',hN'⟩:∃ N',N' = ps'.length:=⟨_,rfl⟩
 have hn1:(N:Int) ≤ 9223372036854775807:=by unfold maxLen at hmx; omega
 have hn2:(N':Int) ≤ 9223372036854775807:=by unfold maxLen at hmx'; omega
 by_cases hne:N = N'
 ·by_cases h0:N = 0
  ·obtain ⟨a,c,rfl⟩:=slice_nil ho (by omega)
   obtain ⟨a',c',rfl⟩:=slice_nil ho' (by omega)
   have e1:es = []:=List.eq_nil_of_length_eq_zero (by omega)
   have e2:es' = []:=List.eq_nil_of_length_eq_zero (by omega)
   have HV:=hide (veq_t (show Sp.vArr es = Sp.vArr es' by rw [e1,e2]))
   rw [← hN,h0] at ho
   rw [← hN',← hne,h0] at ho'
   clear ho ho' ha ha' hl hl' e1 e2 hS hN hN' hne
   go_enter Tryz.func112,Tryz.ntmps112
   go_wp2_with (fail)
   refine wp_loop_rounds 1 ?_
   rw [rounds_succ]
   go_wp2_with (fail)
   go_ret
   exact ⟨by rw [unhide HV]; rfl,Below.refl _ _⟩
  ·obtain ⟨g1,p1,rfl,a1,b1,l1,hc1⟩:=owns_cell1 ho (by omega)
   obtain ⟨g2,p2,rfl,a2,b2,l2,hc2⟩:=owns_cell1 ho' (by omega)
   have HC1:=hide hc1
   have HC2:=hide hc2
   have HA:=hide ha
   have HA':=hide ha'
   have HS:=hide hS
   have HN:=hide hN
   have HN':=hide hN'
   have HL:=hide hl
   have HL':=hide hl'
   rw [← hN] at a1 ⊢
   rw [← hN'] at a2 ⊢
   subst hne
   clear ho ho' ha ha' hl hl' hS hN hN' hc1 hc2 h0
   go_enter Tryz.func112,Tryz.ntmps112
   go_wp2_with (fail)
   go_loopw [17] (fun i wr=>∃ k:Nat,k ≤ N ∧ i = .int .i64 k ∧ es.take k = es'.take k ∧ Below w.heap.size w wr) (fun i _=>N - (intOf i).toNat)
   case atStart=>exact ⟨0,by omega,rfl,by simp,Below.refl _ _⟩
   case round =>
    obtain ⟨k,hk,rfl,heq,hb⟩:=hrel
    have HEQ:=hide heq
    have HB:=hide hb
    clear heq
    by_cases hlt:k < N
    ·have h1:k < ps.length:=by have:=unhide HN; omega
     have h2:k < ps'.length:=by have:=unhide HN'; omega
     have h3:k < es.length:=by have:=unhide HL; omega
     have h4:k < es'.length:=by have:=unhide HL'; omega
     have q1:=(hb.cell (p:=⟨g1,k,none⟩) l1).trans (unhide HC1 k h1)
     have q2:=(hb.cell (p:=⟨g2,k,none⟩) l2).trans (unhide HC2 k h2)
     have hcall:=hide (unhide HS F F' wr ps[k] ps'[k] es[k] es'[k] (((unhide HA).get k h1 h3).bel hb) (((unhide HA').get k h2 h4).bel hb))
     have hst:es.take (k + 1) = es'.take (k + 1) ↔ es[k] = es'[k]:=by
      rw [List.take_succ_eq_append_getElem h3,List.take_succ_eq_append_getElem h4,unhide HEQ]
      exact ⟨fun h=>List.singleton_inj.1 (List.append_cancel_left h),fun h=>by rw [h]⟩
     have HST:=hide hst
     generalize ps[k] = pk at *
     generalize ps'[k] = pk' at *
     clear hst hb
     go_wp2_with (fail)
     refine (unhide hcall).mono ?_
     rintro e w2 ⟨rfl,hb2⟩
     have HB2:=hide ((unhide HB).trans (hb2.mono (unhide HB).size))
     clear hb2 hcall
     by_cases hee:es[k] = es'[k]
     ·rw [veq_t hee]
      have HST2:=hide ((unhide HST).2 hee)
      clear hee
      go_wp2_with (fail)
      exact ⟨⟨k + 1,by omega,by go_num,unhide HST2,unhide HB2⟩,by simp only [intOf]; omega⟩
     ·rw [veq_f hee]
      have HV:=hide (veq_f (a:=Sp.vArr es) (b:=Sp.vArr es') (fun h=>by
       have h5:es = es':=by unfold Sp.vArr at h; injection h
       exact hee (by subst h5; rfl)))
      clear hee
      go_wp2_with (fail)
      go_ret
      exact ⟨by rw [unhide HV]; rfl,unhide HB2⟩
    ·have HV:=hide (veq_t (show Sp.vArr es = Sp.vArr es' by
      have h5:=unhide HEQ
      rw [List.take_of_length_le (by have:=unhide HN; have:=unhide HL; omega),List.take_of_length_le (by have:=unhide HN'; have:=unhide HL'; omega)] at h5
      rw [h5]))
     go_wp2_with (fail)
     go_ret
     exact ⟨by rw [unhide HV]; rfl,hb⟩
 ·obtain ⟨a,c,rfl⟩:=slice_form ho
  obtain ⟨a',c',rfl⟩:=slice_form ho'
  have HV:=hide (veq_f (a:=Sp.vArr es) (b:=Sp.vArr es') (fun h=>by
   have h5:es = es':=by unfold Sp.vArr at h; injection h
   rw [h5] at hl
   omega))
  have e0:((N:Int) == (N':Int)) = false:=by rw [beq_eq_false_iff_ne]; omega
  have e1:((N:Int) != (N':Int)) = true:=by rw [bne_iff_ne]; omega
  rw [← hN,← hN']
  clear ho ho' ha ha' hl hl' hS hN hN' hne
  go_enter Tryz.func112,Tryz.ntmps112
  go_wp2_with (fail)
  go_ret
  exact ⟨by rw [unhide HV]; rfl,Below.refl _ _⟩
end Go.Proofs.YtdpomdelmdofmaaGreatDoor

namespace Go.Proofs.YtdpomdelmdofmaaGreatDoor
open Go.RowKit Go.Maps
theorem sub_turn {α:Type}:∀ {l m:List α},l.Pairwise (· ≠ ·) → (∀ x ∈ l,x ∈ m) → m.length ≤ l.length → ∀ x ∈ m,x ∈ l
 | [],m,_,_,h,x,hx=>by
  have:m = []:=List.eq_nil_of_length_eq_zero (by simpa using h)
  rw [this] at hx; exact hx
 | a :: l,m,hp,hs,h,x,hx=>by
  obtain ⟨h1,h2⟩:=List.pairwise_cons.1 hp
  obtain ⟨m1,m2,rfl⟩:=List.append_of_mem (hs a (List.mem_cons_self ..))
  have ih:=sub_turn (l:=l) (m:=m1 ++ m2) h2 (fun y hy=>by
   have h3:=hs y (List.mem_cons_of_mem _ hy)
   have h4:=h1 y hy
   simp only [List.mem_append,List.mem_cons] at h3 ⊢
   rcases h3 with h3 | h3 | h3
   ·exact Or.inl h3
   ·exact absurd h3.symm h4
   ·exact Or.inr h3) (by simp only [List.length_append,List.length_cons] at h ⊢; omega)
  simp only [List.mem_append,List.mem_cons] at hx ⊢
  rcases hx with hx | hx | hx
  ·exact Or.inr (ih x (by simp [hx]))
  ·exact Or.inl hx
  ·exact Or.inr (ih x (by simp [hx]))
theorem Pt.fsts {P:Value → Sp.V → Prop}:∀ {l:List (Lit × DataW Value)} {m:List (Lit × Sp.V)},Pt P l m → l.map Prod.fst = m.map Prod.fst
 | [],[],_=>rfl
 | a :: _,b :: _,⟨⟨k,_⟩,t⟩=>by
  have:=Pt.fsts t
  simp only [List.map_cons]
  rw [k,this]
theorem Pt.size {P:Value → Sp.V → Prop} {l:List (Lit × DataW Value)} {m:List (Lit × Sp.V)} (h:Pt P l m):l.length = m.length:=by
 have:=congrArg List.length h.fsts
 simpa using this
theorem atKey_def {H:Type} (es:List (Lit × DataW H)) (k:Lit) (z:DataW H):(DataW.map es).atKey k z = (match es.find? (fun p=>p.1.sameKey k) with | some p=>p.2 | none=>z):=rfl
theorem find_yes {α:Type} {p:Lit × α → Bool} {a:Lit × α} {l:List (Lit × α)} (h:p a = true):(a :: l).find? p = some a:=List.find?_cons_of_pos h
theorem find_no {α:Type} {p:Lit × α → Bool} {a:Lit × α} {l:List (Lit × α)} (h:¬ p a = true):(a :: l).find? p = l.find? p:=List.find?_cons_of_neg h
theorem Pt.at {P:Value → Sp.V → Prop} (k:Lit):∀ {l:List (Lit × DataW Value)} {m:List (Lit × Sp.V)},Pt P l m → Maps.has (.map l) k = true → ∃ x,(∀ z,(DataW.map l).atKey k z = .held x) ∧ P x ((DataW.map m).atKey k .nil)
 | [],[],_,h=>by cases h
 | a :: r,b :: s,⟨⟨kk,x,e,g⟩,t⟩,h=>by
  by_cases hk:a.1.sameKey k = true
  ·refine ⟨x,fun z=>?_,?_⟩
   ·rw [atKey_def,find_yes (p:=fun p=>p.1.sameKey k) hk]; exact e
   ·rw [atKey_def,find_yes (p:=fun p=>p.1.sameKey k) (by rw [← kk]; exact hk)]; exact g
  ·have h2:Maps.has (.map r) k = true:=by
    have h3:(a.1.sameKey k || r.any fun p=>p.1.sameKey k) = true:=h
    rw [Bool.eq_false_iff.2 hk,Bool.false_or] at h3
    exact h3
   obtain ⟨x',e1,e2⟩:=Pt.at k t h2
   refine ⟨x',fun z=>?_,?_⟩
   ·rw [atKey_def,find_no (p:=fun p=>p.1.sameKey k) hk]; exact e1 z
   ·rw [atKey_def,find_no (p:=fun p=>p.1.sameKey k) (by rw [← kk]; exact hk)]; exact e2
theorem Pt.canon {P:Value → Sp.V → Prop} {l:List (Lit × DataW Value)} {m:List (Lit × Sp.V)} (h:Pt P l m) (c:Maps.Canon (.map l:DataW Value)):Maps.Canon (.map m:DataW Unit):=by
 obtain ⟨es,he,hp,hk⟩:=c
 injection he with he
 subst he
 refine ⟨m,rfl,?_,?_⟩
 ·have h1:(l.map Prod.fst).Pairwise (fun a b=>a.before b = true):=List.pairwise_map.2 hp
  rw [h.fsts] at h1
  exact List.pairwise_map.1 h1
 ·intro p hp2
  have h1:p.1 ∈ l.map Prod.fst:=by rw [h.fsts]; exact List.mem_map.2 ⟨p,hp2,rfl⟩
  obtain ⟨q,hq,e⟩:=List.mem_map.1 h1
  rw [← e]; exact hk q hq
theorem obj_same {es es':List (Lit × Sp.V)} (c:Maps.Canon (.map es:DataW Unit)) (c':Maps.Canon (.map es':DataW Unit)) (hl:es.length = es'.length)
  (h:∀ k,Maps.has (.map es:DataW Unit) k = true → Maps.has (.map es':DataW Unit) k = true ∧ (DataW.map es).atKey k .nil = (DataW.map es').atKey k .nil):Sp.vObj es = Sp.vObj es':=by
 obtain ⟨_,he,hp,hk⟩:=c
 injection he with he
 subst he
 obtain ⟨_,he,hp',hk'⟩:=c'
 injection he with he
 subst he
 have hap:=apart_of_rising hp
 have hap':=apart_of_rising hp'
 have hsub:∀ p ∈ es,p ∈ es':=fun p hpm=>by
  have h1:Maps.has (.map es:DataW Unit) p.1 = true:=List.any_eq_true.2 ⟨p,hpm,WideAt.sameKey_self (hk p hpm)⟩
  obtain ⟨h2,h3⟩:=h p.1 h1
  obtain ⟨q,hq,hs⟩:=List.any_eq_true.1 (show es'.any (fun q=>q.1.sameKey p.1) = true from h2)
  have e1:q.1 = p.1:=WideAt.sameKey_eq hs
  have e2:=WideAt.atKey_mem .nil (hk p hpm) hap (show (p.1,p.2) ∈ es from hpm)
  have e3:=WideAt.atKey_mem .nil (hk' q hq) hap' (show (q.1,q.2) ∈ es' from hq)
  rw [e1] at e3
  rw [e2,e3] at h3
  have:p = q:=Prod.ext e1.symm h3
  rw [this]; exact hq
 have hne:es.Pairwise (· ≠ ·):=hap.imp (fun h e=>h (congrArg Prod.fst e))
 have hback:=sub_turn hne hsub (by omega)
 unfold Sp.vObj
 rw [eq_of_mem_rising hp hp' (fun p=>⟨hsub p,hback p⟩)]
theorem obj_ne {es es':List (Lit × Sp.V)} {k:Lit} (h1:Maps.has (.map es:DataW Unit) k = true) (h:Maps.has (.map es':DataW Unit) k = true → (DataW.map es).atKey k .nil ≠ (DataW.map es').atKey k .nil):Sp.vObj es ≠ Sp.vObj es':=by
 intro e
 unfold Sp.vObj at e
 injection e with e
 subst e
 exact h h1 rfl
end Go.Proofs.YtdpomdelmdofmaaGreatDoor
