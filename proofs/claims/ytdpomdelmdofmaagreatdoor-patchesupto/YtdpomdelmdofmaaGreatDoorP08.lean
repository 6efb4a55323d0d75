import Derived.Test.YtdpomdelmdofmaaGreatDoorP01
open Go.Shelf renaming Ren->AI
open Go.Proofs.Tryz renaming prog->AS
open Go.Lib renaming cut->AT
namespace Go.Proofs
open Go.Shelf
def Tryz.lays160_ren:AI:=⟨fun|160=>195|232=>235|231=>234|227=>236|234=>238|233=>237|236=>240|235=>239|228=>281|271=>283|151=>282|197=>230|120=>307|152=>306|260=>276|137=>314|119=>315|224=>279|225=>278|217=>277|266=>304|n=>n,fun|9=>9|4=>4|3=>3|5=>5|117=>295|116=>294|0=>0|124=>298|21=>21|105=>289|46=>201|119=>207|139=>210|138=>209|n=>n,fun|3=>1|4=>2|n=>n⟩
theorem Tryz.lays160:Go.Proofs.Lays.n160 AS Tryz.lays160_ren:=by
 constructor<;>first|kernel_rfl|(intro w;kernel_rfl)|decide
def Tryz.laysC172_ren:AI:=⟨fun|172=>196|244=>241|245=>242|247=>284|279=>285|280=>286|281=>287|282=>288|287=>308|316=>297|171=>94|205=>309|321=>316|322=>317|243=>131|246=>173|283=>212|284=>213|285=>214|286=>215|129=>257|317=>256|318=>258|319=>259|320=>260|337=>293|338=>294|n=>n,fun|9=>9|3=>3|75=>162|76=>163|4=>4|5=>5|167=>325|37=>117|0=>0|85=>326|2=>2|168=>328|53=>252|175=>345|46=>201|210=>348|127=>166|145=>360|143=>358|21=>21|171=>274|173=>277|212=>312|51=>313|20=>20|213=>314|232=>352|233=>353|80=>40|n=>n,fun|15=>8|16=>9|17=>5|18=>10|19=>11|n=>n⟩
theorem Tryz.laysC172:Go.Proofs.LaysC.n172 AS Tryz.laysC172_ren:=by
 constructor<;>first|kernel_rfl|(intro w;kernel_rfl)|decide|(constructor<;>first|kernel_rfl|(intro w;kernel_rfl)|decide|(constructor<;>first|kernel_rfl|(intro w;kernel_rfl)|decide))
def Tryz.lays145_ren:AI:=⟨fun|145=>145|220=>193|219=>232|217=>277|225=>278|224=>279|267=>280|266=>304|314=>305|n=>n,fun|9=>9|4=>4|59=>212|3=>3|5=>5|46=>201|146=>342|51=>313|n=>n,fun|1=>6|n=>n⟩
theorem Tryz.lays145:Go.Proofs.Lays.n145 AS Tryz.lays145_ren:=by
 constructor<;>first|kernel_rfl|(intro w;kernel_rfl)|decide
open Go.RowKit Go.Lib in
theorem Tryz.strings_Cut(s q0:ByteArray)(m:Int)(w:World)(hs:s.size<4294967281)(hm:w.cell? ⟨6,0,none⟩=some (.int .i64 m)):
  Calls AS 145 #[.string s,.string q0] w λe w'=>e=.returned (.tuple #[.string ⟨(AT s.data.toList q0.data.toList).1.toArray⟩,.string ⟨(AT s.data.toList q0.data.toList).2.1.toArray⟩,.bool (AT s.data.toList q0.data.toList).2.2])/\∃n,w'=w.drewN n:=Any.strings_Cut Tryz.lays145 s q0 m w hs hm
def Tryz.lays221_ren:AI:=⟨fun|221=>144|268=>190|138=>191|143=>192|195=>229|197=>230|218=>231|219=>232|260=>276|217=>277|225=>278|224=>279|267=>280|266=>304|314=>305|n=>n,fun|9=>9|3=>3|31=>59|4=>4|0=>0|105=>289|21=>21|5=>5|46=>201|119=>207|139=>210|138=>209|146=>342|51=>313|n=>n,fun|1=>6|3=>1|4=>2|n=>n⟩
def Tryz.lays146_ren:AI:=⟨fun|146=>109|221=>144|268=>190|138=>191|143=>192|195=>229|197=>230|218=>231|219=>232|260=>276|217=>277|225=>278|224=>279|267=>280|266=>304|314=>305|n=>n,fun|9=>9|31=>59|3=>3|4=>4|0=>0|105=>289|21=>21|5=>5|46=>201|119=>207|139=>210|138=>209|146=>342|51=>313|n=>n,fun|1=>6|3=>1|4=>2|n=>n⟩
theorem Tryz.lays146:Go.Proofs.Lays.n146 AS Tryz.lays146_ren:=by
 constructor<;>first|kernel_rfl|(intro w;kernel_rfl)|decide
def Tryz.lays196_ren:AI:=⟨fun|196=>108|259=>143|n=>n,fun|9=>9|4=>4|3=>3|5=>5|12=>12|119=>207|0=>0|46=>201|139=>210|138=>209|53=>252|n=>n,fun|3=>1|4=>2|n=>n⟩
theorem Tryz.lays196:Go.Proofs.Lays.n196 AS Tryz.lays196_ren:=by
 constructor<;>first|kernel_rfl|(intro w;kernel_rfl)|decide
end Go.Proofs
