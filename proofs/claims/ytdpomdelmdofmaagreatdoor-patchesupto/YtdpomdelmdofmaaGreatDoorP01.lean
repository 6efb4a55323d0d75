import Derived.Test.YtdpomdelmdofmaaGreatDoorProg
import Derived.Test.YtdpomdelmdofmaaGreatDoorPAA
open Go.Proofs.Tryz renaming prog->AI
open Go.Shelf renaming Ren->AS
open Go.Fence renaming wide->AT
open Go renaming World->A1,Calls->A2
open Go.Lib renaming runeCells->A3,decodeGo->A5
open Go.Maps renaming size->A4
set_option maxHeartbeats 1000000
namespace Go.Proofs
open Go.Shelf
def Tryz.lays169_ren:AS:=⟨fun|169=>79|n=>n,fun|70=>116|9=>9|0=>0|72=>119|37=>117|127=>166|3=>3|5=>5|n=>n,fun|n=>n⟩
theorem Tryz.lays169:Go.Proofs.Lays.n169 AI Tryz.lays169_ren:=by
 constructor<;>first|kernel_rfl|(intro w;kernel_rfl)|decide
theorem Tryz.Builder_Extra_169:Builder.Extra AI Tryz.lays169_ren:=by
 constructor<;>first|kernel_rfl|(intro w;kernel_rfl)|decide|(constructor<;>first|kernel_rfl|(intro w;kernel_rfl)|decide)
open Go.RowKit in
theorem Tryz.Builder_String_any(B b:Nat)(l:List UInt8)(w:A1)(h:Lib.IsBuilder 119 5 B b (Lib.byteCells l) w)(q0:B<=w.1.size):
  A2 AI 79 #[.pointer (some ⟨b,0,none⟩)] w λe w'=>e=.returned (.string ⟨l.toArray⟩)/\Below B w w':=Any.Builder_String_any Tryz.lays169 Tryz.Builder_Extra_169 B b l w h q0
def Tryz.lays161_ren:AS:=⟨fun|161=>263|231=>234|227=>236|233=>237|235=>239|228=>281|197=>230|151=>282|260=>276|152=>306|137=>314|119=>315|224=>279|225=>278|217=>277|266=>304|n=>n,fun|9=>9|4=>4|3=>3|5=>5|117=>295|116=>294|0=>0|124=>298|105=>289|21=>21|119=>207|46=>201|139=>210|138=>209|n=>n,fun|3=>1|4=>2|n=>n⟩
theorem Tryz.lays161:Go.Proofs.Lays.n161 AI Tryz.lays161_ren:=by
 constructor<;>first|kernel_rfl|(intro w;kernel_rfl)|decide
open Go.RowKit in
theorem Tryz.strings_TrimLeft_one(s:ByteArray)(c:UInt8)(hc:c.toNat<128)(w:A1):
  A2 AI 263 #[.string s,.string ⟨#[c]⟩] w λe w'=>e=.returned (.string ⟨(Lib.trimLeftB s.data.toList c).toArray⟩)/\w'=w:=Any.strings_TrimLeft_one Tryz.lays161 s c hc w
def Tryz.lays162_ren:AS:=⟨fun|162=>264|232=>235|227=>236|234=>238|236=>240|228=>281|271=>283|151=>282|120=>307|197=>230|152=>306|260=>276|137=>314|119=>315|224=>279|225=>278|217=>277|266=>304|n=>n,fun|9=>9|4=>4|3=>3|5=>5|117=>295|116=>294|0=>0|124=>298|21=>21|105=>289|46=>201|119=>207|139=>210|138=>209|n=>n,fun|3=>1|4=>2|n=>n⟩
theorem Tryz.lays162:Go.Proofs.Lays.n162 AI Tryz.lays162_ren:=by
 constructor<;>first|kernel_rfl|(intro w;kernel_rfl)|decide
open Go.RowKit in
theorem Tryz.strings_TrimRight_one(s:ByteArray)(c:UInt8)(hc:c.toNat<128)(w:A1)(hs:s.size<=9223372036854775807):
  A2 AI 264 #[.string s,.string ⟨#[c]⟩] w λe w'=>e=.returned (.string ⟨(Lib.trimRightB s.data.toList c).toArray⟩)/\w'=w:=Any.strings_TrimRight_one Tryz.lays162 s c hc w hs
def Tryz.lays242_ren:AS:=⟨fun|242=>262|278=>296|n=>n,fun|37=>117|21=>21|51=>313|4=>4|5=>5|46=>201|n=>n,fun|n=>n⟩
theorem Tryz.lays242:Go.Proofs.Lays.n242 AI Tryz.lays242_ren:=by
 constructor<;>first|kernel_rfl|(intro w;kernel_rfl)|decide
open Go.RowKit in
theorem Tryz.utf8_AppendRune_plain(B:Nat)(v:Value)(n:Nat)(xs:List Value)(r:Int)(q6:-2147483648<=r)(q7:r<=2147483647)(w:A1)(q4:w.ownsRow B 5 1 v n xs)(q0:n+4<=140737488355328)(q5:B<=w.1.size):
  A2 AI 262 #[v,.int .i32 r] w λe w'=>∃v',e=.returned v'/\w'.ownsRow B 5 1 v' (n+(A3 r).length) (xs++A3 r)/\∃o,(w.alloc o).grownBy w' v.ownBlock:=Any.utf8_AppendRune_plain Tryz.lays242 δ B v n xs r q6 q7 w q4 q0 q5
def Tryz.laysM171_ren:AS:=⟨fun|171=>94|243=>131|246=>173|283=>212|284=>213|285=>214|286=>215|129=>257|317=>256|318=>258|319=>259|320=>260|337=>293|338=>294|n=>n,fun|3=>3|9=>9|2=>2|4=>4|171=>274|0=>0|53=>252|37=>117|5=>5|173=>277|212=>312|51=>313|20=>20|213=>314|46=>201|232=>352|233=>353|n=>n,fun|17=>5|18=>10|19=>11|n=>n⟩
theorem Tryz.laysM171:Go.Proofs.LaysM.n171 AI Tryz.laysM171_ren:=by
 constructor<;>first|kernel_rfl|(intro w;kernel_rfl)|decide|(constructor<;>first|kernel_rfl|(intro w;kernel_rfl)|decide)
open Go.RowKit Go.Sort Go.Lib in
theorem Tryz.strconv_Itoa(n:Int)(h0:-9223372036854775808<=n)(h1:n<=9223372036854775807)(w:A1)(q0:Lib.TabIs AI w "internal/strconv.uint64pow10" .u64 Lib.pow10Tab):
  A2 AI 94 #[.int .i64 n] w λe w'=>e=.returned (.string ⟨(Lib.itoa n).toArray⟩)/\∃k os,w'=grow (w.drewN k) os:=Any.strconv_Itoa Tryz.laysM171 n h0 h1 w q0
def Tryz.laysM316_ren:AS:=⟨fun|316=>297|n=>n,fun|9=>9|3=>3|4=>4|37=>117|0=>0|127=>166|5=>5|n=>n,fun|n=>n⟩
theorem Tryz.laysM316:Go.Proofs.LaysM.n316 AI Tryz.laysM316_ren:=by
 constructor<;>first|kernel_rfl|(intro w;kernel_rfl)|decide|(constructor<;>first|kernel_rfl|(intro w;kernel_rfl)|decide)
open Go.RowKit in
theorem Tryz.stringslite_Clone(s:ByteArray)(w:A1)(q0:s.size<=281474976710656):
  A2 AI 297 #[.string s] w λe w'=>e=.returned (.string s)/\Below w.1.size w w':=Any.stringslite_Clone Tryz.laysM316 s w q0
def Tryz.lays99_ren:AS:=⟨fun|99=>194|206=>233|n=>n,fun|9=>9|4=>4|3=>3|n=>n,fun|n=>n⟩
theorem Tryz.lays99:Go.Proofs.Lays.n99 AI Tryz.lays99_ren:=by
 constructor<;>first|kernel_rfl|(intro w;kernel_rfl)|decide
open Go.RowKit Go.Lib in
theorem Tryz.strings_HasPrefix(s p:ByteArray)(w:A1):
  A2 AI 194 #[.string s,.string p] w λe w'=>e=.returned (.bool (Lib.hasPrefix s.data.toList p.data.toList))/\w'=w:=Any.strings_HasPrefix Tryz.lays99 s p w
def Tryz.lays197_ren:AS:=⟨fun|197=>230|260=>276|n=>n,fun|9=>9|21=>21|3=>3|4=>4|5=>5|105=>289|119=>207|0=>0|46=>201|139=>210|138=>209|n=>n,fun|3=>1|4=>2|n=>n⟩
theorem Tryz.lays197:Go.Proofs.Lays.n197 AI Tryz.lays197_ren:=by
 constructor<;>first|kernel_rfl|(intro w;kernel_rfl)|decide
open Go.RowKit Go.Lib in
theorem Tryz.utf8_DecodeRuneInString(s:ByteArray)(w:A1)(hT:Lib.Utf8Tabs 1 2 w):
  A2 AI 230 #[.string s] w λe w'=>e=.returned (.tuple #[.int .i32 (A5 s).1,.int .i64 (A5 s).2])/\Below w.1.size w w':=Any.utf8_DecodeRuneInString Tryz.lays197 s w hT
def Tryz.keys141_ren:AS:=⟨fun|7=>141|10=>188|n=>n,fun|23=>109|26=>9|3=>80|28=>204|0=>0|27=>203|33=>54|4=>4|n=>n,fun|n=>n⟩
theorem Tryz.keys141:Go.Proofs.SlLaysZ.n7 AI Tryz.keys141_ren:=by
 constructor
 case f7=>exact⟨Tryz.f141.name,η,Tryz.func141.trans (congrArg some δ)⟩
 case f10=>exact⟨Tryz.f188.name,η,Tryz.func188.trans (congrArg some δ)⟩
 all_goals first|kernel_rfl|(intro w;kernel_rfl)|decide
def Tryz.sorted140_ren:AS:=⟨fun|6=>140|8=>186|9=>187|11=>226|13=>228|12=>227|23=>275|24=>257|14=>266|15=>267|16=>268|17=>269|18=>270|19=>271|20=>272|21=>273|22=>274|25=>298|26=>299|27=>300|28=>301|29=>302|30=>303|31=>313|n=>n,fun|26=>9|28=>204|24=>59|0=>0|3=>3|37=>201|48=>313|50=>252|4=>4|40=>318|39=>317|45=>216|5=>5|9=>9|51=>336|55=>340|57=>354|58=>189|33=>54|n=>n,fun|n=>n⟩
theorem Tryz.sorted140:Go.Proofs.SlLaysZ.n6 AI Tryz.sorted140_ren:=by
 constructor
 case f6=>exact⟨Tryz.f140.name,η,Tryz.func140.trans (congrArg some δ)⟩
 case f8=>exact⟨Tryz.f186.name,η,Tryz.func186.trans (congrArg some δ)⟩
 case f11=>exact⟨Tryz.f226.name,η,Tryz.func226.trans (congrArg some δ)⟩
 all_goals first|kernel_rfl|(intro w;kernel_rfl)|decide
def Tryz.sort187_ren:AS:=⟨fun|6=>187|8=>228|9=>227|19=>275|20=>257|21=>266|22=>267|23=>268|24=>269|25=>270|26=>271|27=>272|28=>273|29=>274|36=>298|31=>299|32=>300|37=>301|38=>302|39=>303|41=>313|n=>n,fun|27=>59|29=>9|3=>3|32=>201|26=>59|0=>0|44=>313|46=>252|4=>4|36=>318|35=>317|41=>216|5=>5|9=>9|53=>336|57=>340|63=>354|64=>189|n=>n,fun|n=>n⟩
theorem Tryz.sort187:Go.Proofs.SlLaysM.n6 AI Tryz.sort187_ren:=by
 constructor
 case f6=>exact⟨Tryz.f187.name,η,Tryz.func187.trans (congrArg some δ)⟩
 case f9=>exact⟨Tryz.f227.name,η,Tryz.func227.trans (congrArg some δ)⟩
 case f21=>exact⟨Tryz.f266.name,η,Tryz.func266.trans (congrArg some δ)⟩
 case f22=>exact⟨Tryz.f267.name,η,Tryz.func267.trans (congrArg some δ)⟩
 case f23=>exact⟨Tryz.f268.name,η,Tryz.func268.trans (congrArg some δ)⟩
 case f24=>exact⟨Tryz.f269.name,η,Tryz.func269.trans (congrArg some δ)⟩
 case f25=>exact⟨Tryz.f270.name,η,Tryz.func270.trans (congrArg some δ)⟩
 case f26=>exact⟨Tryz.f271.name,η,Tryz.func271.trans (congrArg some δ)⟩
 case f27=>exact⟨Tryz.f272.name,η,Tryz.func272.trans (congrArg some δ)⟩
 case f28=>exact⟨Tryz.f273.name,η,Tryz.func273.trans (congrArg some δ)⟩
 case f29=>exact⟨Tryz.f274.name,η,Tryz.func274.trans (congrArg some δ)⟩
 case f36=>exact⟨Tryz.f298.name,η,Tryz.func298.trans (congrArg some δ)⟩
 case f37=>exact⟨Tryz.f301.name,η,Tryz.func301.trans (congrArg some δ)⟩
 case f38=>exact⟨Tryz.f302.name,η,Tryz.func302.trans (congrArg some δ)⟩
 case f39=>exact⟨Tryz.f303.name,η,Tryz.func303.trans (congrArg some δ)⟩
 case f41=>exact⟨Tryz.f313.name,η,Tryz.func313.trans (congrArg some δ)⟩
 all_goals first|kernel_rfl|(intro w;kernel_rfl)|decide
open Go.RowKit Go.Maps Go.Sort
theorem Tryz.sorts140(m:Nat):AnyZ.SortsIn AI Tryz.sorted140_ren AT m:=
 ⟨λblk off cap ss W hH q0 hsz=>ķ.2 (AnyM.slices_Sort_string Tryz.sort187 blk off cap ss W hH q0 hsz),
  λp cap W=>ķ.2 (AnyM.slices_Sort_string_none Tryz.sort187 p cap W)⟩
theorem Tryz.maps_Keys_141(mb:Option Nat)(W:A1):CallsIn AT 5 AI 141 #[.map mb] W λe w'=>e=.returned (.func (.func 188) #[] #[.pointer (some ⟨W.1.size,0,none⟩)])/\w'=W.alloc (.cells #[.map mb] 109):=
 AnyZ.keys_in Tryz.keys141 AT 5 trivial rfl mb W
theorem Tryz.slices_Sorted_keys_140_141{H:Type}(b nn:Nat)(D0:DataW H)(R:Value->Option (DataW H×List MemPlace))(w:A1)(q5:w.ownsMap AI 9 R b nn D0)(q6:A4 D0<=maxLen)(q0:A4 D0*16<=140737488355328):
  CallsIn AT 5 AI 140 #[.func (.func 188) #[] #[.pointer (some ⟨w.1.size,0,none⟩)]] (w.alloc (.cells #[.map (some b)] 109)) λe w'=>∃(v:Value) (ss:List (List UInt8)),e=.returned v/\ss.Perm (strKeys D0)/\
   w'.ownsRow (w.alloc (.cells #[.map (some b)] 109)).1.size 9 1 v ss.length ((ss.mergeSort (λx y=>decide (x<=y))).map encStr)/\(v=.slice none 0 0<->ss=[])/\Below (w.alloc (.cells #[.map (some b)] 109)).1.size (w.alloc (.cells #[.map (some b)] 109)) w':=by
 have q8:=q5.lt;have q7:SeqGives AT 2 AI 188 #[.pointer (some ⟨w.1.size,0,none⟩)] encStr (λss=>ss.Perm (strKeys D0)) (A4 D0) (w.alloc (.cells #[.map (some b)] 109)):=
  AnyZ.keys_gives (ρ:=Tryz.keys141_ren) { Tryz.keys141 with } AT _ trivial rfl ζ w.1.size b nn D0 _ φ φ (by
   obtain⟨es,q4,hb,Ft,hs,hD⟩:=q5;exact⟨es,q4,(Ä _ _ b q8).trans hb,Ft,hs,hD⟩)
 exact AnyZ.sorted_in Tryz.sorted140 AT 5 trivial trivial trivial trivial rfl ζ (Tryz.sorts140 _) (enters_of func187 δ rfl) 188 #[.pointer (some ⟨w.1.size,0,none⟩)] trivial (enters_of func188 δ rfl) _ _ q6 q0 _ q7
end Go.Proofs
