import Derived.Test.YtdpomdelmdofmaaGreatDoorPfx01
import Derived.Lib.Builder
import Derived.Lib.AppendStr
import Derived.Lib.Strings
import Derived.Laws.Externs
import Derived.Ground.GgzProg
import Derived.Ground.SlgmProg
import Derived.Shelf.LaysM
import Derived.Shelf.SlIter.Nil
import Derived.Shelf.Small.Strs
import Derived.Shelf.Small.Utf8
import Derived.Shelf.SortM.Plain
import Derived.Shelf.SortM.SortNone
import Derived.Shelf.Strconv.Clone
import Derived.Shelf.Strconv.Itoa0
import Derived.Shelf.Strconv.Itoa1
import Derived.Shelf.Strconv.Itoa2
import Derived.Shelf.Strings.AsciiSet
import Derived.Shelf.Strings.Builder1
import Derived.Shelf.Strings.BuilderF
import Derived.Shelf.Strings.BuilderK
import Derived.Shelf.Strings.Count
import Derived.Shelf.Strings.Cut
import Derived.Shelf.Strings.Prefix
import Derived.Shelf.Strings.Runes
import Derived.Shelf.Strings.Search1
import Derived.Shelf.Strings.Search2
import Derived.Shelf.Strings.Search3
import Derived.Shelf.Strings.Shaped
import Derived.Shelf.Strings.Trim
import Derived.Shelf.Unicode.Decode
import Derived.Shelf.Unicode.DecodeAny
import Derived.Shelf.Utf8.AppendRunePlain
open Go.Proofs.Tryz renaming prog->AI
open Go.Lib renaming cell_of_heap->AS,runeCells->A5,frozen_of_heap->A6,alloc_old->CR,IsBuilder->C2,decodeGo->Dt,strCells->DD
open Array renaming getElem?_eq_some_iff->AT
open Go.Shelf renaming Ren->A1
open Go renaming World->A2,Calls->A3,Value->CD
open Go.Fence renaming wide->A4
open Go.Lib.BuilderAt renaming put->Bs
open Option renaming map_eq_some_iff->BY
open Go.Oper renaming upon_value->CH
open Go.Result renaming andThen->CL
open Go.RowKit renaming Below->C1
open Go.Maps renaming size->Dp
open Go.RowKit.Below renaming refl->D1
set_option maxHeartbeats 1000000
set_option maxRecDepth 100000
namespace Go.Proofs.YtdpomdelmdofmaaGreatDoor
open Go.Proofs.Tryz
open Go.RowKit
theorem Pp:(Tryz.prog.info? 5).map (fun i=>(i.zero,i.size,i.bytes))=some (some (.int .u8 0),1,1):=by kernel_rfl
theorem S6:(Tryz.prog.info? 119).map (fun i=>decide (0<i.size))=some true:=by kernel_rfl
abbrev IsB(B b:Nat)(bs:List CD)(w:A2):Prop:=C2 119 5 B b bs w
abbrev BAt(B b:Nat)(bs:List CD)(w:A2):Prop:=Lib.BuilderAt 119 5 B b (.pointer (some ⟨b,0,none⟩)) bs w
def OKz(b:Nat)(w w':A2):Prop:=∀k o,w.heap[k]? = some o->k≠b->(∀c,o ≠ .cells c 5 (0,0))->w'.heap[k]? = some o
theorem OKz.refl(b:Nat)(w:A2):OKz b w w:=fun _ _ h _ _=>h
theorem OKz.trans{b:Nat}{w1 w2 w3:A2}(h:OKz b w1 w2)(g:OKz b w2 w3):OKz b w1 w3:=fun k o h1 h2 h3=>g k o (h k o h1 h2 h3) h2 h3
theorem OKz.setCell(b:Nat)(w:A2)(j:Nat)(v:CD):OKz b w (w.setCell ⟨b,j,none⟩ v):=fun _ _ h1 h2 _=>(Below.heap_setCell _ _ _ _ h2).trans h1
theorem OKz.below{b:Nat}{w w':A2}(h:C1 w.heap.size w w'):OKz b w w':=fun k _ h1 _ _=>(h.block k (AT.1 h1).1).trans h1
theorem OKz.grown{B b n:Nat}{v:CD}{xs:List CD}{w w0 w2:A2}(q0:w.ownsRow B 5 1 v n xs)(h0:∀k,k<w.heap.size->w0.heap[k]? = w.heap[k]?)(hs:w.heap.size<=w0.heap.size)(hg:w0.grownBy w2 v.ownBlock):OKz b w w2:=by
 intro k o h1 _ h3;have hk:=(AT.1 h1).1;refine (hg.block k (by omega) ?_).trans ((h0 k hk).trans h1);intro hv;rcases q0.2 with⟨e,_⟩|⟨g,cap,cur,e,_,hb,_⟩
 ·rw[e] at hv;cases hv
 ·rw[e] at hv;injection hv with hv;subst hv;rw[hb] at h1;injection h1 with h1;exact h3 cur h1.symm
theorem KA(b:Nat)(w:A2)(h0:w.cell? ⟨b,0,none⟩=some (.pointer (some ⟨b,0,none⟩))):
  A3 AI 142 #[.pointer (some ⟨b,0,none⟩)] w fun e w'=>e=.returned (.tuple #[])/\w'=w:=by
 obtain⟨j,hj,_⟩:=BY.1 S6
 go_enter func142,ntmps142
 go_wp2
 rw[Lib.run_neq_ptr_same w _ underlying116 hj]
 go_wp2
 go_end0
 exact⟨rfl,rfl⟩
theorem WX:∃j,Tryz.prog.info? 119=some j/\0<j.size:=by
 obtain⟨j,hj,h⟩:=BY.1 S6;exact⟨j,hj,by simpa using h⟩
theorem J7(b:Nat)(w:A2)(h0:w.cell? ⟨b,0,none⟩=some (.pointer none))(q0:w.shape? b=some (119,2))(q4:w.frozen? ⟨b,0,none⟩=false):
  A3 AI 142 #[.pointer (some ⟨b,0,none⟩)] w fun e w'=>e=.returned (.tuple #[])/\w'=w.setCell ⟨b,0,none⟩ (.pointer (some ⟨b,0,none⟩)):=by
 obtain⟨j,hj,q5⟩:=WX
 go_enter func142,ntmps142
 go_wp2
 rw[Lib.run_to_unsafe w ⟨b,0,none⟩ underlying116 underlying250 hj (by omega) q0 (Nat.zero_lt_succ 1)];simp only[CL];rw[CH]
 go_wp2
 rw[run_callFunc_extern func189 (by kernel_rfl) (by kernel_rfl) (by kernel_rfl) (e:=Extern.AbiNoEscape.same) (by kernel_rfl)];rw[Lib.run_noEscape];simp only[CL];rw[CH]
 go_wp2
 rw[Lib.run_from_unsafe w ⟨b,0,none⟩ underlying250 underlying116 hj q0 (by kernel_rfl)];simp only[CL];rw[CH]
 go_wp2
 go_end0
 exact⟨rfl,rfl⟩
theorem EV(B b:Nat)(bs:List CD)(w:A2)(h:IsB B b bs w):
  A3 AI 142 #[.pointer (some ⟨b,0,none⟩)] w fun e w'=>e=.returned (.tuple #[])/\BAt B b bs w'/\C1 B w w'/\OKz b w w':=by
 rcases h with h|h
 ·refine (J7 b w h.cell0 h.shape h.frozen0).mono ?_;rintro e w' ⟨rfl,rfl⟩;exact⟨rfl,h.used _,(D1 B w).setCell (p:=⟨b,0,none⟩) h.1 _,OKz.setCell _ _ _ _⟩
 ·refine (KA b w h.cell0).mono ?_;rintro e w' ⟨rfl,rfl⟩;exact⟨rfl,h,D1 B _,OKz.refl _ _⟩
end Go.Proofs.YtdpomdelmdofmaaGreatDoor

set_option maxHeartbeats 1000000
namespace Go.Proofs
open Go.Shelf
def Tryz.lays169_ren:A1:=⟨fun|169=>79|n=>n,fun|70=>116|9=>9|0=>0|72=>119|37=>117|127=>166|3=>3|5=>5|n=>n,fun|n=>n⟩
theorem Tryz.lays169:Go.Proofs.Lays.n169 AI Tryz.lays169_ren:={
 mixed:=by kernel_rfl
 f169:=Tryz.func79.trans (congrArg some (by kernel_rfl))
 t0:=underlying0
 a0:=Tryz.isAgg0
 z0:=Tryz.sizeOf0
 v0:=Tryz.zeroValue0
 t3:=underlying3
 a3:=Tryz.isAgg3
 z3:=Tryz.sizeOf3
 v3:=Tryz.zeroValue3
 t9:=underlying9
 a9:=Tryz.isAgg9
 z9:=Tryz.sizeOf9
 v9:=Tryz.zeroValue9
 t37:=underlying117
 a37:=Tryz.isAgg117
 z37:=Tryz.sizeOf117
 v37:=Tryz.zeroValue117
 t70:=underlying116
 a70:=Tryz.isAgg116
 z70:=Tryz.sizeOf116
 v70:=Tryz.zeroValue116
 t72:=underlying119
 a72:=Tryz.isAgg119
 z72:=Tryz.sizeOf119
 v72:=Tryz.zeroValue119
 t127:=underlying166
 a127:=Tryz.isAgg166
 z127:=Tryz.sizeOf166
 v127:=Tryz.zeroValue166 }
theorem Tryz.Builder_Extra_169:Builder.Extra AI Tryz.lays169_ren:={
 sizeBuilder:=by kernel_rfl
 liesBuilder:=by kernel_rfl
 t5:=underlying5
 a5:=Tryz.isAgg5
 z5:=Tryz.sizeOf5
 v5:=Tryz.zeroValue5
 infoByte:=by kernel_rfl
 cellsByte:=by kernel_rfl
 sizeByte:=by kernel_rfl
 neB5:=by decide }
open Go.RowKit in
theorem Tryz.Builder_String_any(B b:Nat)(l:List UInt8)(w:A2)(h:C2 119 5 B b (Lib.byteCells l) w)(q0:B<=w.heap.size):
  A3 AI 79 #[.pointer (some ⟨b,0,none⟩)] w fun e w'=>e=.returned (.string ⟨l.toArray⟩)/\C1 B w w':=Any.Builder_String_any Tryz.lays169 Tryz.Builder_Extra_169 B b l w h q0
def Tryz.lays161_ren:A1:=⟨fun|161=>263|231=>234|227=>236|233=>237|235=>239|228=>281|197=>230|151=>282|260=>276|152=>306|137=>314|119=>315|224=>279|225=>278|217=>277|266=>304|n=>n,fun|9=>9|4=>4|3=>3|5=>5|117=>295|116=>294|0=>0|124=>298|105=>289|21=>21|119=>207|46=>201|139=>210|138=>209|n=>n,fun|3=>1|4=>2|n=>n⟩
theorem Tryz.lays161:Go.Proofs.Lays.n161 AI Tryz.lays161_ren:={
 mixed:=by kernel_rfl
 f119:=Tryz.func315.trans (congrArg some (by kernel_rfl))
 f137:=Tryz.func314.trans (congrArg some (by kernel_rfl))
 f151:=Tryz.func282.trans (congrArg some (by kernel_rfl))
 f152:=Tryz.func306.trans (congrArg some (by kernel_rfl))
 f161:=Tryz.func263.trans (congrArg some (by kernel_rfl))
 f197:=Tryz.func230.trans (congrArg some (by kernel_rfl))
 f217:=Tryz.func277.trans (congrArg some (by kernel_rfl))
 f224:=Tryz.func279.trans (congrArg some (by kernel_rfl))
 f225:=Tryz.func278.trans (congrArg some (by kernel_rfl))
 f227:=Tryz.func236.trans (congrArg some (by kernel_rfl))
 f228:=Tryz.func281.trans (congrArg some (by kernel_rfl))
 f231:=Tryz.func234.trans (congrArg some (by kernel_rfl))
 f233:=Tryz.func237.trans (congrArg some (by kernel_rfl))
 f235:=Tryz.func239.trans (congrArg some (by kernel_rfl))
 f260:=Tryz.func276.trans (congrArg some (by kernel_rfl))
 f266:=Tryz.func304.trans (congrArg some (by kernel_rfl))
 t0:=underlying0
 a0:=Tryz.isAgg0
 z0:=Tryz.sizeOf0
 v0:=Tryz.zeroValue0
 t3:=underlying3
 a3:=Tryz.isAgg3
 z3:=Tryz.sizeOf3
 v3:=Tryz.zeroValue3
 t4:=underlying4
 a4:=Tryz.isAgg4
 z4:=Tryz.sizeOf4
 v4:=Tryz.zeroValue4
 t5:=underlying5
 a5:=Tryz.isAgg5
 z5:=Tryz.sizeOf5
 v5:=Tryz.zeroValue5
 t9:=underlying9
 a9:=Tryz.isAgg9
 z9:=Tryz.sizeOf9
 v9:=Tryz.zeroValue9
 t21:=underlying21
 a21:=Tryz.isAgg21
 z21:=Tryz.sizeOf21
 v21:=Tryz.zeroValue21
 t46:=underlying201
 a46:=Tryz.isAgg201
 z46:=Tryz.sizeOf201
 v46:=Tryz.zeroValue201
 t105:=underlying289
 a105:=Tryz.isAgg289
 z105:=Tryz.sizeOf289
 v105:=Tryz.zeroValue289
 t116:=underlying294
 a116:=Tryz.isAgg294
 z116:=Tryz.sizeOf294
 t117:=underlying295
 a117:=Tryz.isAgg295
 z117:=Tryz.sizeOf295
 v117:=Tryz.zeroValue295
 t119:=underlying207
 a119:=Tryz.isAgg207
 z119:=Tryz.sizeOf207
 t124:=underlying298
 a124:=Tryz.isAgg298
 z124:=Tryz.sizeOf298
 v124:=Tryz.zeroValue298
 t138:=underlying209
 a138:=Tryz.isAgg209
 z138:=Tryz.sizeOf209
 v138:=Tryz.zeroValue209
 t139:=underlying210
 a139:=Tryz.isAgg210
 z139:=Tryz.sizeOf210
 v139:=Tryz.zeroValue210
 g3:=by kernel_rfl
 g4:=by kernel_rfl }
open Go.RowKit in
theorem Tryz.strings_TrimLeft_one(s:ByteArray)(c:UInt8)(hc:c.toNat<128)(w:A2):
  A3 AI 263 #[.string s,.string ⟨#[c]⟩] w fun e w'=>e=.returned (.string ⟨(Lib.trimLeftB s.data.toList c).toArray⟩)/\w'=w:=Any.strings_TrimLeft_one Tryz.lays161 s c hc w
def Tryz.lays162_ren:A1:=⟨fun|162=>264|232=>235|227=>236|234=>238|236=>240|228=>281|271=>283|151=>282|120=>307|197=>230|152=>306|260=>276|137=>314|119=>315|224=>279|225=>278|217=>277|266=>304|n=>n,fun|9=>9|4=>4|3=>3|5=>5|117=>295|116=>294|0=>0|124=>298|21=>21|105=>289|46=>201|119=>207|139=>210|138=>209|n=>n,fun|3=>1|4=>2|n=>n⟩
theorem Tryz.lays162:Go.Proofs.Lays.n162 AI Tryz.lays162_ren:={
 mixed:=by kernel_rfl
 f119:=Tryz.func315.trans (congrArg some (by kernel_rfl))
 f120:=Tryz.func307.trans (congrArg some (by kernel_rfl))
 f137:=Tryz.func314.trans (congrArg some (by kernel_rfl))
 f151:=Tryz.func282.trans (congrArg some (by kernel_rfl))
 f152:=Tryz.func306.trans (congrArg some (by kernel_rfl))
 f162:=Tryz.func264.trans (congrArg some (by kernel_rfl))
 f197:=Tryz.func230.trans (congrArg some (by kernel_rfl))
 f217:=Tryz.func277.trans (congrArg some (by kernel_rfl))
 f224:=Tryz.func279.trans (congrArg some (by kernel_rfl))
 f225:=Tryz.func278.trans (congrArg some (by kernel_rfl))
 f227:=Tryz.func236.trans (congrArg some (by kernel_rfl))
 f228:=Tryz.func281.trans (congrArg some (by kernel_rfl))
 f232:=Tryz.func235.trans (congrArg some (by kernel_rfl))
 f234:=Tryz.func238.trans (congrArg some (by kernel_rfl))
 f236:=Tryz.func240.trans (congrArg some (by kernel_rfl))
 f260:=Tryz.func276.trans (congrArg some (by kernel_rfl))
 f266:=Tryz.func304.trans (congrArg some (by kernel_rfl))
 f271:=Tryz.func283.trans (congrArg some (by kernel_rfl))
 t0:=underlying0
 a0:=Tryz.isAgg0
 z0:=Tryz.sizeOf0
 v0:=Tryz.zeroValue0
 t3:=underlying3
 a3:=Tryz.isAgg3
 z3:=Tryz.sizeOf3
 v3:=Tryz.zeroValue3
 t4:=underlying4
 a4:=Tryz.isAgg4
 z4:=Tryz.sizeOf4
 v4:=Tryz.zeroValue4
 t5:=underlying5
 a5:=Tryz.isAgg5
 z5:=Tryz.sizeOf5
 v5:=Tryz.zeroValue5
 t9:=underlying9
 a9:=Tryz.isAgg9
 z9:=Tryz.sizeOf9
 v9:=Tryz.zeroValue9
 t21:=underlying21
 a21:=Tryz.isAgg21
 z21:=Tryz.sizeOf21
 v21:=Tryz.zeroValue21
 t46:=underlying201
 a46:=Tryz.isAgg201
 z46:=Tryz.sizeOf201
 v46:=Tryz.zeroValue201
 t105:=underlying289
 a105:=Tryz.isAgg289
 z105:=Tryz.sizeOf289
 v105:=Tryz.zeroValue289
 t116:=underlying294
 a116:=Tryz.isAgg294
 z116:=Tryz.sizeOf294
 t117:=underlying295
 a117:=Tryz.isAgg295
 z117:=Tryz.sizeOf295
 v117:=Tryz.zeroValue295
 t119:=underlying207
 a119:=Tryz.isAgg207
 z119:=Tryz.sizeOf207
 t124:=underlying298
 a124:=Tryz.isAgg298
 z124:=Tryz.sizeOf298
 v124:=Tryz.zeroValue298
 t138:=underlying209
 a138:=Tryz.isAgg209
 z138:=Tryz.sizeOf209
 v138:=Tryz.zeroValue209
 t139:=underlying210
 a139:=Tryz.isAgg210
 z139:=Tryz.sizeOf210
 v139:=Tryz.zeroValue210
 g3:=by kernel_rfl
 g4:=by kernel_rfl }
open Go.RowKit in
theorem Tryz.strings_TrimRight_one(s:ByteArray)(c:UInt8)(hc:c.toNat<128)(w:A2)(hs:s.size<=9223372036854775807):
  A3 AI 264 #[.string s,.string ⟨#[c]⟩] w fun e w'=>e=.returned (.string ⟨(Lib.trimRightB s.data.toList c).toArray⟩)/\w'=w:=Any.strings_TrimRight_one Tryz.lays162 s c hc w hs
def Tryz.lays242_ren:A1:=⟨fun|242=>262|278=>296|n=>n,fun|37=>117|21=>21|51=>313|4=>4|5=>5|46=>201|n=>n,fun|n=>n⟩
theorem Tryz.lays242:Go.Proofs.Lays.n242 AI Tryz.lays242_ren:={
 mixed:=by kernel_rfl
 f242:=Tryz.func262.trans (congrArg some (by kernel_rfl))
 f278:=Tryz.func296.trans (congrArg some (by kernel_rfl))
 t4:=underlying4
 a4:=Tryz.isAgg4
 z4:=Tryz.sizeOf4
 v4:=Tryz.zeroValue4
 t5:=underlying5
 a5:=Tryz.isAgg5
 z5:=Tryz.sizeOf5
 v5:=Tryz.zeroValue5
 t21:=underlying21
 a21:=Tryz.isAgg21
 z21:=Tryz.sizeOf21
 v21:=Tryz.zeroValue21
 t37:=underlying117
 a37:=Tryz.isAgg117
 z37:=Tryz.sizeOf117
 v37:=Tryz.zeroValue117
 t46:=underlying201
 a46:=Tryz.isAgg201
 z46:=Tryz.sizeOf201
 v46:=Tryz.zeroValue201
 t51:=underlying313
 a51:=Tryz.isAgg313
 z51:=Tryz.sizeOf313
 v51:=Tryz.zeroValue313 }
open Go.RowKit in
theorem Tryz.utf8_AppendRune_plain(B:Nat)(v:CD)(n:Nat)(xs:List CD)(r:Int)(q6:-2147483648<=r)(q7:r<=2147483647)(w:A2)(q0:w.ownsRow B 5 1 v n xs)(q4:n+4<=140737488355328)(q5:B<=w.heap.size):
  A3 AI 262 #[v,.int .i32 r] w fun e w'=>∃v',e=.returned v'/\w'.ownsRow B 5 1 v' (n+(A5 r).length) (xs++A5 r) /\ ∃o,(w.alloc o).grownBy w' v.ownBlock:=Any.utf8_AppendRune_plain Tryz.lays242 (by kernel_rfl) B v n xs r q6 q7 w q0 q4 q5
def Tryz.laysM171_ren:A1:=⟨fun|171=>94|243=>131|246=>173|283=>212|284=>213|285=>214|286=>215|129=>257|317=>256|318=>258|319=>259|320=>260|337=>293|338=>294|n=>n,fun|3=>3|9=>9|2=>2|4=>4|171=>274|0=>0|53=>252|37=>117|5=>5|173=>277|212=>312|51=>313|20=>20|213=>314|46=>201|232=>352|233=>353|n=>n,fun|17=>5|18=>10|19=>11|n=>n⟩
theorem Tryz.laysM171:Go.Proofs.LaysM.n171 AI Tryz.laysM171_ren:={
 mixed:=by kernel_rfl
 f129:=Tryz.func257.trans (congrArg some (by kernel_rfl))
 f171:=Tryz.func94.trans (congrArg some (by kernel_rfl))
 f243:=Tryz.func131.trans (congrArg some (by kernel_rfl))
 f246:=Tryz.func173.trans (congrArg some (by kernel_rfl))
 f283:=Tryz.func212.trans (congrArg some (by kernel_rfl))
 f284:=Tryz.func213.trans (congrArg some (by kernel_rfl))
 f285:=Tryz.func214.trans (congrArg some (by kernel_rfl))
 f286:=Tryz.func215.trans (congrArg some (by kernel_rfl))
 f317:=Tryz.func256.trans (congrArg some (by kernel_rfl))
 f318:=Tryz.func258.trans (congrArg some (by kernel_rfl))
 f319:=Tryz.func259.trans (congrArg some (by kernel_rfl))
 f320:=Tryz.func260.trans (congrArg some (by kernel_rfl))
 f337:=Tryz.func293.trans (congrArg some (by kernel_rfl))
 f338:=Tryz.func294.trans (congrArg some (by kernel_rfl))
 t0:=underlying0
 a0:=Tryz.isAgg0
 z0:=Tryz.sizeOf0
 v0:=Tryz.zeroValue0
 t2:=underlying2
 a2:=Tryz.isAgg2
 z2:=Tryz.sizeOf2
 v2:=Tryz.zeroValue2
 t3:=underlying3
 a3:=Tryz.isAgg3
 z3:=Tryz.sizeOf3
 v3:=Tryz.zeroValue3
 t4:=underlying4
 a4:=Tryz.isAgg4
 z4:=Tryz.sizeOf4
 v4:=Tryz.zeroValue4
 t5:=underlying5
 a5:=Tryz.isAgg5
 z5:=Tryz.sizeOf5
 v5:=Tryz.zeroValue5
 t9:=underlying9
 a9:=Tryz.isAgg9
 z9:=Tryz.sizeOf9
 v9:=Tryz.zeroValue9
 t20:=underlying20
 a20:=Tryz.isAgg20
 z20:=Tryz.sizeOf20
 v20:=Tryz.zeroValue20
 t37:=underlying117
 a37:=Tryz.isAgg117
 z37:=Tryz.sizeOf117
 v37:=Tryz.zeroValue117
 t46:=underlying201
 a46:=Tryz.isAgg201
 z46:=Tryz.sizeOf201
 v46:=Tryz.zeroValue201
 t51:=underlying313
 a51:=Tryz.isAgg313
 z51:=Tryz.sizeOf313
 v51:=Tryz.zeroValue313
 t53:=underlying252
 a53:=Tryz.isAgg252
 z53:=Tryz.sizeOf252
 v53:=Tryz.zeroValue252
 t171:=underlying274
 a171:=Tryz.isAgg274
 z171:=Tryz.sizeOf274
 v171:=Tryz.zeroValue274
 t173:=underlying277
 a173:=Tryz.isAgg277
 z173:=Tryz.sizeOf277
 v173:=Tryz.zeroValue277
 t212:=underlying312
 a212:=Tryz.isAgg312
 z212:=Tryz.sizeOf312
 v212:=Tryz.zeroValue312
 t213:=underlying314
 a213:=Tryz.isAgg314
 z213:=Tryz.sizeOf314
 t232:=underlying352
 a232:=Tryz.isAgg352
 z232:=Tryz.sizeOf352
 v232:=Tryz.zeroValue352
 t233:=underlying353
 a233:=Tryz.isAgg353
 z233:=Tryz.sizeOf353
 v233:=Tryz.zeroValue353
 g17:=by kernel_rfl
 g18:=by kernel_rfl
 g19:=by kernel_rfl
 i0:=by kernel_rfl
 i2:=by kernel_rfl
 i3:=by kernel_rfl
 i4:=by kernel_rfl
 i5:=by kernel_rfl
 i9:=by kernel_rfl
 i20:=by kernel_rfl
 i37:=by kernel_rfl
 i46:=by kernel_rfl
 i51:=by kernel_rfl
 i53:=by kernel_rfl
 i171:=by kernel_rfl
 i173:=by kernel_rfl
 i212:=by kernel_rfl
 i232:=by kernel_rfl
 i233:=by kernel_rfl
 m17:=by kernel_rfl
 m18:=by kernel_rfl
 m19:=by kernel_rfl }
open Go.RowKit Go.Sort Go.Lib in
theorem Tryz.strconv_Itoa(n:Int)(h0:-9223372036854775808<=n)(h1:n<=9223372036854775807)(w:A2)(q0:Lib.TabIs AI w "internal/strconv.uint64pow10" .u64 Lib.pow10Tab):
  A3 AI 94 #[.int .i64 n] w fun e w'=>e=.returned (.string ⟨(Lib.itoa n).toArray⟩) /\ ∃k os,w'=grow (w.drewN k) os:=Any.strconv_Itoa Tryz.laysM171 n h0 h1 w q0
def Tryz.laysM316_ren:A1:=⟨fun|316=>297|n=>n,fun|9=>9|3=>3|4=>4|37=>117|0=>0|127=>166|5=>5|n=>n,fun|n=>n⟩
theorem Tryz.laysM316:Go.Proofs.LaysM.n316 AI Tryz.laysM316_ren:={
 mixed:=by kernel_rfl
 f316:=Tryz.func297.trans (congrArg some (by kernel_rfl))
 t0:=underlying0
 a0:=Tryz.isAgg0
 z0:=Tryz.sizeOf0
 v0:=Tryz.zeroValue0
 t3:=underlying3
 a3:=Tryz.isAgg3
 z3:=Tryz.sizeOf3
 v3:=Tryz.zeroValue3
 t4:=underlying4
 a4:=Tryz.isAgg4
 z4:=Tryz.sizeOf4
 v4:=Tryz.zeroValue4
 t9:=underlying9
 a9:=Tryz.isAgg9
 z9:=Tryz.sizeOf9
 v9:=Tryz.zeroValue9
 t37:=underlying117
 a37:=Tryz.isAgg117
 z37:=Tryz.sizeOf117
 v37:=Tryz.zeroValue117
 t127:=underlying166
 a127:=Tryz.isAgg166
 z127:=Tryz.sizeOf166
 v127:=Tryz.zeroValue166
 t5:=underlying5
 a5:=Tryz.isAgg5
 z5:=Tryz.sizeOf5
 v5:=Tryz.zeroValue5
 i0:=by kernel_rfl
 i3:=by kernel_rfl
 i4:=by kernel_rfl
 i5:=by kernel_rfl
 i9:=by kernel_rfl
 i37:=by kernel_rfl
 i127:=by kernel_rfl }
open Go.RowKit in
theorem Tryz.stringslite_Clone(s:ByteArray)(w:A2)(q0:s.size<=281474976710656):
  A3 AI 297 #[.string s] w fun e w'=>e=.returned (.string s)/\C1 w.heap.size w w':=Any.stringslite_Clone Tryz.laysM316 s w q0
def Tryz.lays99_ren:A1:=⟨fun|99=>194|206=>233|n=>n,fun|9=>9|4=>4|3=>3|n=>n,fun|n=>n⟩
theorem Tryz.lays99:Go.Proofs.Lays.n99 AI Tryz.lays99_ren:={
 mixed:=by kernel_rfl
 f99:=Tryz.func194.trans (congrArg some (by kernel_rfl))
 f206:=Tryz.func233.trans (congrArg some (by kernel_rfl))
 t3:=underlying3
 a3:=Tryz.isAgg3
 z3:=Tryz.sizeOf3
 v3:=Tryz.zeroValue3
 t4:=underlying4
 a4:=Tryz.isAgg4
 z4:=Tryz.sizeOf4
 v4:=Tryz.zeroValue4
 t9:=underlying9
 a9:=Tryz.isAgg9
 z9:=Tryz.sizeOf9
 v9:=Tryz.zeroValue9 }
open Go.RowKit Go.Lib in
theorem Tryz.strings_HasPrefix(s p:ByteArray)(w:A2):
  A3 AI 194 #[.string s,.string p] w fun e w'=>e=.returned (.bool (Lib.hasPrefix s.data.toList p.data.toList))/\w'=w:=Any.strings_HasPrefix Tryz.lays99 s p w
def Tryz.lays197_ren:A1:=⟨fun|197=>230|260=>276|n=>n,fun|9=>9|21=>21|3=>3|4=>4|5=>5|105=>289|119=>207|0=>0|46=>201|139=>210|138=>209|n=>n,fun|3=>1|4=>2|n=>n⟩
theorem Tryz.lays197:Go.Proofs.Lays.n197 AI Tryz.lays197_ren:={
 mixed:=by kernel_rfl
 f197:=Tryz.func230.trans (congrArg some (by kernel_rfl))
 f260:=Tryz.func276.trans (congrArg some (by kernel_rfl))
 t0:=underlying0
 a0:=Tryz.isAgg0
 z0:=Tryz.sizeOf0
 v0:=Tryz.zeroValue0
 t3:=underlying3
 a3:=Tryz.isAgg3
 z3:=Tryz.sizeOf3
 v3:=Tryz.zeroValue3
 t4:=underlying4
 a4:=Tryz.isAgg4
 z4:=Tryz.sizeOf4
 v4:=Tryz.zeroValue4
 t5:=underlying5
 a5:=Tryz.isAgg5
 z5:=Tryz.sizeOf5
 v5:=Tryz.zeroValue5
 t9:=underlying9
 a9:=Tryz.isAgg9
 z9:=Tryz.sizeOf9
 v9:=Tryz.zeroValue9
 t21:=underlying21
 a21:=Tryz.isAgg21
 z21:=Tryz.sizeOf21
 v21:=Tryz.zeroValue21
 t46:=underlying201
 a46:=Tryz.isAgg201
 z46:=Tryz.sizeOf201
 v46:=Tryz.zeroValue201
 t105:=underlying289
 a105:=Tryz.isAgg289
 z105:=Tryz.sizeOf289
 v105:=Tryz.zeroValue289
 t119:=underlying207
 a119:=Tryz.isAgg207
 z119:=Tryz.sizeOf207
 t138:=underlying209
 a138:=Tryz.isAgg209
 z138:=Tryz.sizeOf209
 v138:=Tryz.zeroValue209
 t139:=underlying210
 a139:=Tryz.isAgg210
 z139:=Tryz.sizeOf210
 v139:=Tryz.zeroValue210
 g3:=by kernel_rfl
 g4:=by kernel_rfl }
open Go.RowKit Go.Lib in
theorem Tryz.utf8_DecodeRuneInString(s:ByteArray)(w:A2)(hT:Lib.Utf8Tabs 1 2 w):
  A3 AI 230 #[.string s] w fun e w'=>e=.returned (.tuple #[.int .i32 (Dt s).1,.int .i64 (Dt s).2])/\C1 w.heap.size w w':=Any.utf8_DecodeRuneInString Tryz.lays197 s w hT
def Tryz.keys141_ren:A1:=⟨fun|7=>141|10=>188|n=>n,fun|23=>109|26=>9|3=>80|28=>204|0=>0|27=>203|33=>54|4=>4|n=>n,fun|n=>n⟩
theorem Tryz.keys141:Go.Proofs.SlLaysZ.n7 AI Tryz.keys141_ren:={
 mixed:=by kernel_rfl
 f7:=⟨Tryz.f141.name,by decide,Tryz.func141.trans (congrArg some (by kernel_rfl))⟩
 f10:=⟨Tryz.f188.name,by decide,Tryz.func188.trans (congrArg some (by kernel_rfl))⟩
 t0:=underlying0
 a0:=Tryz.isAgg0
 z0:=Tryz.sizeOf0
 v0:=Tryz.zeroValue0
 t4:=underlying4
 a4:=Tryz.isAgg4
 z4:=Tryz.sizeOf4
 v4:=Tryz.zeroValue4
 t23:=underlying109
 a23:=Tryz.isAgg109
 z23:=Tryz.sizeOf109
 v23:=Tryz.zeroValue109
 t26:=underlying9
 a26:=Tryz.isAgg9
 z26:=Tryz.sizeOf9
 v26:=Tryz.zeroValue9
 t27:=underlying203
 a27:=Tryz.isAgg203
 z27:=Tryz.sizeOf203
 v27:=Tryz.zeroValue203
 t28:=underlying204
 a28:=Tryz.isAgg204
 z28:=Tryz.sizeOf204
 v28:=Tryz.zeroValue204
 t33:=underlying54
 a33:=Tryz.isAgg54
 z33:=Tryz.sizeOf54
 v33:=Tryz.zeroValue54 }
def Tryz.sorted140_ren:A1:=⟨fun|6=>140|8=>186|9=>187|11=>226|13=>228|12=>227|23=>275|24=>257|14=>266|15=>267|16=>268|17=>269|18=>270|19=>271|20=>272|21=>273|22=>274|25=>298|26=>299|27=>300|28=>301|29=>302|30=>303|31=>313|n=>n,fun|26=>9|28=>204|24=>59|0=>0|3=>3|37=>201|48=>313|50=>252|4=>4|40=>318|39=>317|45=>216|5=>5|9=>9|51=>336|55=>340|57=>354|58=>189|33=>54|n=>n,fun|n=>n⟩
theorem Tryz.sorted140:Go.Proofs.SlLaysZ.n6 AI Tryz.sorted140_ren:={
 mixed:=by kernel_rfl
 f6:=⟨Tryz.f140.name,by decide,Tryz.func140.trans (congrArg some (by kernel_rfl))⟩
 f8:=⟨Tryz.f186.name,by decide,Tryz.func186.trans (congrArg some (by kernel_rfl))⟩
 f11:=⟨Tryz.f226.name,by decide,Tryz.func226.trans (congrArg some (by kernel_rfl))⟩
 t0:=underlying0
 a0:=Tryz.isAgg0
 z0:=Tryz.sizeOf0
 v0:=Tryz.zeroValue0
 t24:=underlying59
 a24:=Tryz.isAgg59
 z24:=Tryz.sizeOf59
 v24:=Tryz.zeroValue59
 t26:=underlying9
 a26:=Tryz.isAgg9
 z26:=Tryz.sizeOf9
 v26:=Tryz.zeroValue9
 t28:=underlying204
 a28:=Tryz.isAgg204
 z28:=Tryz.sizeOf204
 v28:=Tryz.zeroValue204
 i26:=by kernel_rfl }
def Tryz.sort187_ren:A1:=⟨fun|6=>187|8=>228|9=>227|19=>275|20=>257|21=>266|22=>267|23=>268|24=>269|25=>270|26=>271|27=>272|28=>273|29=>274|36=>298|31=>299|32=>300|37=>301|38=>302|39=>303|41=>313|n=>n,fun|27=>59|29=>9|3=>3|32=>201|26=>59|0=>0|44=>313|46=>252|4=>4|36=>318|35=>317|41=>216|5=>5|9=>9|53=>336|57=>340|63=>354|64=>189|n=>n,fun|n=>n⟩
theorem Tryz.sort187:Go.Proofs.SlLaysM.n6 AI Tryz.sort187_ren:={
 mixed:=by kernel_rfl
 f6:=⟨Tryz.f187.name,by decide,Tryz.func187.trans (congrArg some (by kernel_rfl))⟩
 f8:=Tryz.func228.trans (congrArg some (by kernel_rfl))
 f9:=⟨Tryz.f227.name,by decide,Tryz.func227.trans (congrArg some (by kernel_rfl))⟩
 f19:=Tryz.func275.trans (congrArg some (by kernel_rfl))
 f20:=Tryz.func257.trans (congrArg some (by kernel_rfl))
 f21:=⟨Tryz.f266.name,by decide,Tryz.func266.trans (congrArg some (by kernel_rfl))⟩
 f22:=⟨Tryz.f267.name,by decide,Tryz.func267.trans (congrArg some (by kernel_rfl))⟩
 f23:=⟨Tryz.f268.name,by decide,Tryz.func268.trans (congrArg some (by kernel_rfl))⟩
 f24:=⟨Tryz.f269.name,by decide,Tryz.func269.trans (congrArg some (by kernel_rfl))⟩
 f25:=⟨Tryz.f270.name,by decide,Tryz.func270.trans (congrArg some (by kernel_rfl))⟩
 f26:=⟨Tryz.f271.name,by decide,Tryz.func271.trans (congrArg some (by kernel_rfl))⟩
 f27:=⟨Tryz.f272.name,by decide,Tryz.func272.trans (congrArg some (by kernel_rfl))⟩
 f28:=⟨Tryz.f273.name,by decide,Tryz.func273.trans (congrArg some (by kernel_rfl))⟩
 f29:=⟨Tryz.f274.name,by decide,Tryz.func274.trans (congrArg some (by kernel_rfl))⟩
 f31:=Tryz.func299.trans (congrArg some (by kernel_rfl))
 f32:=Tryz.func300.trans (congrArg some (by kernel_rfl))
 f36:=⟨Tryz.f298.name,by decide,Tryz.func298.trans (congrArg some (by kernel_rfl))⟩
 f37:=⟨Tryz.f301.name,by decide,Tryz.func301.trans (congrArg some (by kernel_rfl))⟩
 f38:=⟨Tryz.f302.name,by decide,Tryz.func302.trans (congrArg some (by kernel_rfl))⟩
 f39:=⟨Tryz.f303.name,by decide,Tryz.func303.trans (congrArg some (by kernel_rfl))⟩
 f41:=⟨Tryz.f313.name,by decide,Tryz.func313.trans (congrArg some (by kernel_rfl))⟩
 t0:=underlying0
 a0:=Tryz.isAgg0
 z0:=Tryz.sizeOf0
 v0:=Tryz.zeroValue0
 t3:=underlying3
 a3:=Tryz.isAgg3
 z3:=Tryz.sizeOf3
 v3:=Tryz.zeroValue3
 t4:=underlying4
 a4:=Tryz.isAgg4
 z4:=Tryz.sizeOf4
 v4:=Tryz.zeroValue4
 t5:=underlying5
 a5:=Tryz.isAgg5
 z5:=Tryz.sizeOf5
 v5:=Tryz.zeroValue5
 t9:=underlying9
 a9:=Tryz.isAgg9
 z9:=Tryz.sizeOf9
 v9:=Tryz.zeroValue9
 t26:=underlying59
 a26:=Tryz.isAgg59
 z26:=Tryz.sizeOf59
 v26:=Tryz.zeroValue59
 t27:=underlying59
 a27:=Tryz.isAgg59
 z27:=Tryz.sizeOf59
 v27:=Tryz.zeroValue59
 t29:=underlying9
 a29:=Tryz.isAgg9
 z29:=Tryz.sizeOf9
 v29:=Tryz.zeroValue9
 t32:=underlying201
 a32:=Tryz.isAgg201
 z32:=Tryz.sizeOf201
 v32:=Tryz.zeroValue201
 t35:=underlying317
 a35:=Tryz.isAgg317
 z35:=Tryz.sizeOf317
 v35:=Tryz.zeroValue317
 t36:=underlying318
 a36:=Tryz.isAgg318
 z36:=Tryz.sizeOf318
 v36:=Tryz.zeroValue318
 t41:=underlying216
 a41:=Tryz.isAgg216
 z41:=Tryz.sizeOf216
 v41:=Tryz.zeroValue216
 t44:=underlying313
 a44:=Tryz.isAgg313
 z44:=Tryz.sizeOf313
 v44:=Tryz.zeroValue313
 t46:=underlying252
 a46:=Tryz.isAgg252
 z46:=Tryz.sizeOf252
 v46:=Tryz.zeroValue252
 t53:=underlying336
 a53:=Tryz.isAgg336
 z53:=Tryz.sizeOf336
 v53:=Tryz.zeroValue336
 t57:=underlying340
 a57:=Tryz.isAgg340
 z57:=Tryz.sizeOf340
 v57:=Tryz.zeroValue340
 t63:=underlying354
 a63:=Tryz.isAgg354
 z63:=Tryz.sizeOf354
 v63:=Tryz.zeroValue354
 t64:=underlying189
 a64:=Tryz.isAgg189
 z64:=Tryz.sizeOf189
 v64:=Tryz.zeroValue189 }
open Go.RowKit Go.Maps Go.Sort
theorem Tryz.sorts140(m:Nat):AnyZ.SortsIn AI Tryz.sorted140_ren A4 m:=
 ⟨fun blk off cap ss W hH q0 hsz=>callsIn_wide.2 (AnyM.slices_Sort_string Tryz.sort187 blk off cap ss W hH q0 hsz),
  fun p cap W=>callsIn_wide.2 (AnyM.slices_Sort_string_none Tryz.sort187 p cap W)⟩
theorem Tryz.maps_Keys_141(mb:Option Nat)(W:A2):CallsIn A4 5 AI 141 #[.map mb] W fun e w'=>e=.returned (.func (.func 188) #[] #[.pointer (some ⟨W.heap.size,0,none⟩)])/\w'=W.alloc (.cells #[.map mb] 109):=
 AnyZ.keys_in Tryz.keys141 A4 5 trivial rfl mb W
theorem Tryz.slices_Sorted_keys_140_141{H:Type}(b nn:Nat)(D0:DataW H)(R:CD->Option (DataW H×List MemPlace))(w:A2)(q5:w.ownsMap AI 9 R b nn D0)(q7:Dp D0<=maxLen)(q0:Dp D0*16<=140737488355328):
  CallsIn A4 5 AI 140 #[.func (.func 188) #[] #[.pointer (some ⟨w.heap.size,0,none⟩)]] (w.alloc (.cells #[.map (some b)] 109)) fun e w'=>∃ (v:CD) (ss:List (List UInt8)),e=.returned v/\ss.Perm (strKeys D0) /\
   w'.ownsRow (w.alloc (.cells #[.map (some b)] 109)).heap.size 9 1 v ss.length ((ss.mergeSort (fun x y=>decide (x<=y))).map encStr)/\(v=.slice none 0 0<->ss=[])/\C1 (w.alloc (.cells #[.map (some b)] 109)).heap.size (w.alloc (.cells #[.map (some b)] 109)) w':=by
 have q8:=q5.lt;have q6:SeqGives A4 2 AI 188 #[.pointer (some ⟨w.heap.size,0,none⟩)] encStr (fun ss=>ss.Perm (strKeys D0)) (Dp D0) (w.alloc (.cells #[.map (some b)] 109)):=
  AnyZ.keys_gives (ρ:=Tryz.keys141_ren) { Tryz.keys141 with } A4 _ trivial rfl (by omega) w.heap.size b nn D0 _ (by simp) (by simp) (by
   obtain⟨es,q4,hb,Ft,hs,hD⟩:=q5;exact⟨es,q4,(Below.heap_alloc _ _ b q8).trans hb,Ft,hs,hD⟩)
 exact AnyZ.sorted_in Tryz.sorted140 A4 5 trivial trivial trivial trivial rfl (by omega) (Tryz.sorts140 _) (enters_of func187 (by kernel_rfl) rfl) 188 #[.pointer (some ⟨w.heap.size,0,none⟩)] trivial (enters_of func188 (by kernel_rfl) rfl) _ _ q7 q0 _ q6
end Go.Proofs

set_option maxHeartbeats 2000000
set_option maxRecDepth 100000
namespace Go.Proofs.YtdpomdelmdofmaaGreatDoor
open Go.Proofs.Tryz
open Go.RowKit
theorem LU(B b:Nat)(bs:List CD)(c:Int)(w:A2)(h:IsB B b bs w)(qb:bs.length+1<=140737488355328)(qd:B<=w.heap.size):
  A3 AI 139 #[.pointer (some ⟨b,0,none⟩),.int .u8 c] w fun e w'=>e=.returned .nilIface/\BAt B b (bs++[.int .u8 c]) w'/\C1 B w w'/\OKz b w w':=by
 obtain⟨i0,hi,hz0,q9,hz2⟩:=info_parts Pp
 go_enter func139,ntmps139
 go_wp2_with (fail);refine (EV B b bs _ h).mono ?_
 rintro e w1 ⟨rfl,h1,hb1,q7⟩;obtain⟨hB,v,q6,q5,q8⟩:=h1;have c0:w1.cell? ⟨b,0,none⟩=some (.pointer (some ⟨b,0,none⟩)):=by rw[AS q6];rfl
 have c1:w1.cell? ⟨b,1,none⟩=some v:=by rw[AS q6];rfl
 go_wp2_with (at_builtin;refine wpList_append_own _ rfl _ _ 117 rfl B 5 i0 (.int .u8 0) 1 1 underlying117 hi hz0 q9 hz2 rfl (by decide) _ _ _ rfl (q5.alloc _) ⟨w1.heap.size,0,none⟩ 1 1 [.int .u8 c] rfl rfl ?c1 ?c2 ?c3 ?c4 ?c5 ?_)
 case c1=>
  intro j u hj
  match j,hj with
  | 0,hj=>simp at hj;subst hj;simp[Addr.add]
 case c2=>intro u hu;simp at hu;subst hu;rfl
 case c3=>unfold maxLen;omega
 case c4=>omega
 case c5=>have:=hb1.size;simp;omega
 intro v' w2 q4 q0 _;have hlt:b<w1.heap.size:=(AT.1 q6).1;have hb2:w2.heap[b]? = some (.cells #[.pointer (some ⟨b,0,none⟩),v] 119 (0,0)):=by
  rw[q0.block b (by simp;omega) (fun e=>q8 e.symm),CR w1 _ b hlt];exact q6
 have d0:w2.cell? ⟨b,0,none⟩=some (.pointer (some ⟨b,0,none⟩)):=by rw[AS hb2];rfl
 have d1:w2.cell? ⟨b,1,none⟩=some v:=by rw[AS hb2];rfl
 have f1:w2.frozen? ⟨b,1,none⟩=false:=A6 hb2 1;obtain⟨g,cap,rfl⟩:∃g cap,v'=.slice (some ⟨g,0,none⟩) (bs.length+1) cap:=by
  rcases q4.2 with⟨_,h0⟩|⟨g,cap,cur,hv,_⟩
  ·omega
  ·exact⟨g,cap,hv⟩
 go_wp2_with (fail)
 go_ret;refine⟨rfl,?_,?_,(q7.trans (OKz.grown q5 (fun k hk=>CR w1 _ k hk) (by simp) q0)).trans (OKz.setCell _ _ _ _)⟩
 ·exact Bs hB hb2 (bs':=bs++[.int .u8 c]) (by simpa using q4) (by decide)
 ·exact ((hb1.alloc (by have:=hb1.size;omega) _).grown q0 (by have:=hb1.size;simp;omega) (fun k hk=>(q5.lt k hk).1)).setCell (p:=⟨b,1,none⟩) hB _
theorem Ka(B b:Nat)(bs:List CD)(s:ByteArray)(w:A2)(h:IsB B b bs w)(qb:bs.length+s.size<=140737488355328)(qd:B<=w.heap.size):
  A3 AI 107 #[.pointer (some ⟨b,0,none⟩),.string s] w fun e w'=>e=.returned (.tuple #[.int .i64 s.size,.nilIface])/\BAt B b (bs++DD s) w'/\C1 B w w'/\OKz b w w':=by
 obtain⟨i0,hi,hz0,q9,hz2⟩:=info_parts Pp
 go_enter func107,ntmps107
 go_wp2_with (fail);refine (EV B b bs _ h).mono ?_
 rintro e w1 ⟨rfl,h1,hb1,q7⟩;obtain⟨hB,v,q6,q5,q8⟩:=h1;have c0:w1.cell? ⟨b,0,none⟩=some (.pointer (some ⟨b,0,none⟩)):=by rw[AS q6];rfl
 have c1:w1.cell? ⟨b,1,none⟩=some v:=by rw[AS q6];rfl
 go_wp2_with (at_builtin;refine Lib.wpList_append_own_string _ rfl _ _ 117 9 rfl B 5 i0 underlying117 underlying9 hi hz0 q9 hz2 _ _ _ rfl q5 s rfl ?c3 ?c4 ?c5 ?_)
 case c3=>unfold maxLen;omega
 case c4=>omega
 case c5=>have:=hb1.size;omega
 intro v' w2 q4 q0 _;have hlt:b<w1.heap.size:=(AT.1 q6).1;have hb2:w2.heap[b]? = some (.cells #[.pointer (some ⟨b,0,none⟩),v] 119 (0,0)):=by
  rw[q0.block b hlt (fun e=>q8 e.symm)];exact q6
 have d0:w2.cell? ⟨b,0,none⟩=some (.pointer (some ⟨b,0,none⟩)):=by rw[AS hb2];rfl
 have d1:w2.cell? ⟨b,1,none⟩=some v:=by rw[AS hb2];rfl
 have f1:w2.frozen? ⟨b,1,none⟩=false:=A6 hb2 1;obtain⟨ao,n',cap,rfl⟩:∃ao n' cap,v'=.slice ao n' cap:=by
  rcases q4.2 with⟨hv,_⟩|⟨g,cap,cur,hv,_⟩
  ·exact⟨_,_,_,hv⟩
  ·exact⟨_,_,_,hv⟩
 go_wp2_with (fail)
 go_ret2
 refine⟨rfl,?_,?_,(q7.trans (OKz.grown q5 (fun k _=>rfl) (Nat.le_refl _) q0)).trans (OKz.setCell _ _ _ _)⟩
 ·exact Bs hB hb2 (bs':=bs++DD s) (by simpa[Lib.strCells_length] using q4) (by decide)
 ·exact (hb1.grown q0 (by have:=hb1.size;omega) (fun k hk=>(q5.lt k hk).1)).setCell (p:=⟨b,1,none⟩) hB _
theorem LT(B b:Nat)(bs:List CD)(r:Int)(qe:-2147483648<=r)(qf:r<=2147483647)(w:A2)(h:IsB B b bs w)(q8:bs.length+4<=140737488355328)(qg:B<=w.heap.size):
  A3 AI 221 #[.pointer (some ⟨b,0,none⟩),.int .i32 r] w fun e w'=>(∃n,e=.returned (.tuple #[.int .i64 n,.nilIface]))/\BAt B b (bs++A5 r) w'/\C1 B w w':=by
 go_enter func221,ntmps221
 go_wp2_with (fail);refine (EV B b bs _ h).mono ?_
 rintro e w1 ⟨rfl,h1,hb1,q9⟩;obtain⟨hB,v,q7,q6,qb⟩:=h1;obtain⟨ao,cap,rfl⟩:∃ao cap,v=.slice ao bs.length cap:=by
  rcases q6.2 with⟨hv,h0⟩|⟨g,cap,cur,hv,_⟩
  ·exact⟨none,0,by rw[hv,h0]⟩
  ·exact⟨_,_,hv⟩
 have c0:w1.cell? ⟨b,0,none⟩=some (.pointer (some ⟨b,0,none⟩)):=by rw[AS q7];rfl
 have c1:w1.cell? ⟨b,1,none⟩=some (.slice ao bs.length cap):=by rw[AS q7];rfl
 go_wp2_with (fail);refine (Tryz.utf8_AppendRune_plain B _ bs.length bs r qe qf _ q6 q8 (by have:=hb1.size;omega)).mono ?_
 rintro e w2 ⟨v',rfl,q5,o,q4⟩;have hlt:b<w1.heap.size:=(AT.1 q7).1;have hb2:w2.heap[b]? = some (.cells #[.pointer (some ⟨b,0,none⟩),.slice ao bs.length cap] 119 (0,0)):=by
  rw[q4.block b (by simp;omega) (fun e=>qb e.symm),CR w1 _ b hlt];exact q7
 have d0:w2.cell? ⟨b,0,none⟩=some (.pointer (some ⟨b,0,none⟩)):=by rw[AS hb2];rfl
 have d1:w2.cell? ⟨b,1,none⟩=some (.slice ao bs.length cap):=by rw[AS hb2];rfl
 have f1:w2.frozen? ⟨b,1,none⟩=false:=A6 hb2 1;have qd:∃g q0,v'=.slice g (bs.length+(A5 r).length) q0:=by
  rcases q5.2 with⟨hv,h0⟩|⟨g,q0,cur,hv,_⟩
  ·exact⟨none,0,by rw[hv,h0]⟩
  ·exact⟨_,q0,hv⟩
 obtain⟨g,q0,rfl⟩:=qd
 go_wp2_with (fail)
 go_ret2
 refine⟨⟨_,rfl⟩,?_,?_⟩
 ·exact Bs hB hb2 (bs':=bs++A5 r) (by simpa using q5) (by decide)
 ·exact ((hb1.alloc (by have:=hb1.size;omega) _).grown q4 (by have:=hb1.size;simp;omega) (fun k hk=>(q6.lt k hk).1)).setCell (p:=⟨b,1,none⟩) hB _
end Go.Proofs.YtdpomdelmdofmaaGreatDoor

set_option maxHeartbeats 400000
namespace Go.Proofs.YtdpomdelmdofmaaGreatDoor
open Go.Proofs.Tryz
open Go.RowKit
variable{w:A2}{R:Nat}{t:ByteArray}{l:By}{tw:Bool}{dp fr:Int}
theorem TP(h:RD w R t l tw dp fr):
  A3 AI 179 #[.pointer (some ⟨R,0,none⟩)] w fun e w'=>e=.returned (.int .u8 (Zt l)) /\ ∃n,w'=w.drewN n:=by
 obtain⟨p,ha,h⟩:=h;have c0:=h.c0;have c1:=h.c1;clear h;cases l with
 | cons c l=>
  have hlt:=ha.lt;have q0:((p:Int)==(t.size:Int))=false:=by simp;omega
  have hpk:Hid (Zt (c::l)=t[p].toNat):=by rw[ha.byte];rfl
  clear ha
  go_enter func179,ntmps179
  go_wp2_with (fail)
  go_quiet (fail)
  go_wp2_with (fail)
  go_quiet (fail)
  go_wp2_with (fail);rw[hpk.out]
  go_ret;exact⟨rfl,_,SC _ _ _⟩
 | nil=>
  have hp:=ha.nil;have q0:((p:Int)==(t.size:Int))=true:=by simp;omega
  clear ha hp
  go_enter func179,ntmps179
  go_wp2_with (fail)
  go_quiet (fail)
  go_wp2_with (fail)
  go_ret;exact⟨rfl,_,rfl⟩
theorem VH(u:UInt8)(c:Int)(hc:c=u.toNat)(h:RD w R t l tw dp fr)(hk:Zn l u=false):
  A3 AI 178 #[.pointer (some ⟨R,0,none⟩),.int .u8 c] w fun e w'=>e=.returned (.bool false) /\ ∃n,w'=w.drewN n:=by
 obtain⟨p,ha,h⟩:=h;have c0:=h.c0;have c1:=h.c1;clear h;cases l with
 | cons d l=>
  have hlt:=ha.lt;have q4:((p:Int)==(t.size:Int))=false:=by simp;omega
  have q0:((t[p].toNat:Int)==c)=false:=by
   rw[ha.byte,hc];simp[Zn] at hk |-;intro h;exact hk (UInt8.toNat_inj.1 (by exact_mod_cast h))
  have q5:((t[p].toNat:Int) != c)=true:=by rw[bne,q0];rfl
  clear hk ha hc
  go_enter func178,ntmps178
  go_wp2_with (fail)
  go_quiet (fail)
  go_wp2_with (fail)
  go_ret;exact⟨rfl,_,rfl⟩
 | nil=>
  have hp:=ha.nil;have q4:((p:Int)==(t.size:Int))=true:=by simp;omega
  clear hk ha hp hc
  go_enter func178,ntmps178
  go_wp2_with (fail)
  go_quiet (fail)
  go_wp2_with (fail)
  go_ret;exact⟨rfl,_,rfl⟩
theorem Ar(u:UInt8)(c:Int)(hc:c=u.toNat)(h:RD w R t l tw dp fr)(hk:Zn l u=true):
  A3 AI 178 #[.pointer (some ⟨R,0,none⟩),.int .u8 c] w fun e w'=>e=.returned (.bool true)/\RD w' R t l.tail tw dp fr/\Ae R w w':=by
 obtain⟨p,ha,h⟩:=h;cases l with
 | nil=>simp[Zn] at hk
 | cons d l=>
  have hlt:=ha.lt;have q5:((p:Int)==(t.size:Int))=false:=by simp;omega
  have q6:(p:Int)<2000:=by have:=ha.small;omega
  have q0:((t[p].toNat:Int)==c)=true:=by rw[ha.byte,hc];simp[Zn] at hk |-; rw[hk]
  have q4:((t[p].toNat:Int) != c)=false:=by rw[bne,q0];rfl
  have HF:Hid (∀n,RD ((w.drewN n).setCell ⟨R,1,none⟩ (.int .i64 ((p+1:Nat):Int))) R t l tw dp fr):=Ab fun n=>⟨p+1,ha.next,(h.drewN n).set1 (p+1)⟩
  have HK:Hid (∀n v,Ae R w ((w.drewN n).setCell ⟨R,1,none⟩ v)):=Ab fun n v=>((Ae.refl R w).drewN n).setCell rfl v;have c0:=h.c0;have c1:=h.c1;have f1:=h.fz 1;clear hk h ha hc
  go_enter func178,ntmps178
  go_wp2_with (fail)
  go_quiet (fail)
  go_wp2_with (fail)
  go_ret;exact⟨rfl,Aa HF _,Aa HK _ _⟩
end Go.Proofs.YtdpomdelmdofmaaGreatDoor

set_option maxHeartbeats 400000
namespace Go.Proofs.YtdpomdelmdofmaaGreatDoor
open Go.Proofs.Tryz
open Go.RowKit
def Cw(n:Nat):Bool:=decide (48<=n) && decide (n<=57)
theorem BD(n:Nat)(w:A2)(hn:n<256):
  A3 AI 183 #[.int .u8 n] w fun e w'=>e=.returned (.bool (Cw n))/\w'=w:=by
 have hd:Hid (Cw n=(decide (48<=(n:Int)) && decide ((n:Int)<=57))):=by
  simp only[Cw,Hid];rw[Bool.eq_iff_iff];simp;omega
 by_cases h1:48<=n
 ·have e1:decide ((48:Int)<=(n:Int))=true:=by simp;omega
  go_enter func183,ntmps183
  go_wp2_with (fail);rw[hd.out]
  go_ret
  simp_all
 ·have e1:decide ((48:Int)<=(n:Int))=false:=by simp;omega
  go_enter func183,ntmps183
  go_wp2_with (fail);rw[hd.out]
  go_ret;exact⟨by simp[e1],rfl⟩
theorem Ev{w:A2}{R:Nat}{t:ByteArray}{l:By}{tw:Bool}{dp fr:Int}(h:RD w R t l tw dp fr):
  A3 AI 179 #[.pointer (some ⟨R,0,none⟩)] w fun e w'=>e=.returned (.int .u8 (Zt l))/\RD w' R t l tw dp fr/\Ae R w w':=
 (TP h).mono fun _ _ ⟨he,n,hw⟩=>⟨he,hw▸h.drewN n,hw▸(Ae.refl R w).drewN n⟩
theorem AP{w:A2}{R:Nat}{t:ByteArray}{l:By}{tw:Bool}{dp fr:Int}(u:UInt8)(c:Int)(hc:c=u.toNat)(h:RD w R t l tw dp fr)(hk:Zn l u=false):
  A3 AI 178 #[.pointer (some ⟨R,0,none⟩),.int .u8 c] w fun e w'=>e=.returned (.bool false)/\RD w' R t l tw dp fr/\Ae R w w':=
 (VH u c hc h hk).mono fun _ _ ⟨he,n,hw⟩=>⟨he,hw▸h.drewN n,hw▸(Ae.refl R w).drewN n⟩
theorem Jv(l:By):Zt l<256:=by
 cases l with
 | nil=>simp[Zt]
 | cons c r=>simpa[Zt] using c.toNat_lt
end Go.Proofs.YtdpomdelmdofmaaGreatDoor
