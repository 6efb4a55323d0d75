/-
  The tables lie in memory, from what the rows list of them; and the closing of a call that makes new memory alone.
-/
import Derived.Test.YtdpomdelmdofmaaGreatDoorPart01
import Derived.LaidLaws
import Derived.Shelf.Vars
import Derived.Deep.DeepHandedRow
import Derived.JoinedOf
namespace Go.Proofs.YtdpomdelmdofmaaGreatDoor
open Go.ChangeShapes Go.WideShapes Go.ChangeAt Go.RowKit
theorem own : ownKnob Tryz.prog.godebug = none := by kernel_rfl
theorem laidOut : laidOutB Tryz.prog = true := by kernel_rfl
theorem laid_acc : (match Rows.laid_unicode_utf8_acceptRanges (H := Unit) with | .agg ds => ds.flatMap flat2 | _ => []) = (List.range 32).map (fun j => Value.int .u8 (((if j % 2 = 0 then Lib.accLo (j / 2) else Lib.accHi (j / 2)) : Nat) : Int)) := by kernel_rfl
theorem laid_first : (match Rows.laid_unicode_utf8_first with | .agg ds => ds.flatMap flat1 | _ => []) = (List.range 256).map (fun c => Value.int .u8 ((Lib.firstT c : Nat) : Int)) := by kernel_rfl
theorem laid_pow : (match Rows.laid_internal_strconv_uint64pow10 (H := Unit) with | .agg ds => ds.flatMap flat1 | _ => []) = Lib.pow10Tab.map fun z => Value.int .u64 z := by kernel_rfl
theorem laid_words : (match Rows.laid_amend_text_words (H := Unit) with | .agg ds => ds.flatMap flat1 | _ => []) = wordCells.toList := by kernel_rfl
theorem laid_esc : (match Rows.laid_amend_text_escapes (H := Unit) with | .agg ds => ds.flatMap flat2 | _ => []) = escCells.toList := by kernel_rfl
theorem laid_pesc : (match Rows.laid_amend_pointer_escapes (H := Unit) with | .agg ds => ds.flatMap flat2 | _ => []) = pescCells.toList := by kernel_rfl
theorem agg_cells {H : Type} {enc : TypeId × Value → H} {P : Program} {w : World} {base : Nat} {spare : Nat → Bool} {held : Bool} {fuel : Nat} {t e n : Nat} {cs : List Value} {d : DataW H} {q : List MemPlace}
  (ht : P.underlying t = some (.array n e)) (hc : P.cellsOf t = n * P.cellsOf e) (F : DataW H → List Value)
  (hF : ∀ m l d p, DataW.trod enc P w base spare held m e l = some (d, p) → l = F d)
  (h : DataW.trod enc P w base spare held fuel t cs = some (d, q)) : cs = (match d with | .agg ds => ds.flatMap F | _ => []) := by
 obtain ⟨xs, _, _, ex, _⟩ := DataW.trod_array ht h
 obtain rfl := (Prod.mk.inj ex).1
 exact array_cells ht hc F hF h
set_option maxRecDepth 100000 in
theorem laid_holds {W : World} (h : laidMetH Tryz.prog Rows.prefixRow.laid W) (hSh : W.ShapedOpen Tryz.prog) : Laid W := by
 rw [MakeChecks.laidMetH_plain _ _ _ (by kernel_rfl)] at h
 obtain ⟨ps, hv, _, _⟩ := h
 obtain ⟨_, _, _, _, _, _, _, _, _, _, hv, _⟩ := hv
 obtain ⟨g6, _, c6, _, _, _, hg6, _, hv6, _, hv, _⟩ := hv
 obtain ⟨g1, t1, c1, _, _, _, hg1, ht1, hv1, hd1, hv, _⟩ := hv
 obtain ⟨g4, t4, c4, _, _, _, hg4, ht4, hv4, hd4, hv, _⟩ := hv
 obtain ⟨g5, t5, c5, _, _, _, hg5, ht5, hv5, hd5, hv, _⟩ := hv
 obtain ⟨_, _, _, _, _, _, _, _, _, _, hv, _⟩ := hv
 obtain ⟨g7, t7, c7, _, _, _, hg7, ht7, hv7, hd7, hv, _⟩ := hv
 obtain ⟨g0, t0, c0, _, _, _, hg0, ht0, hv0, hd0, hv, _⟩ := hv
 obtain ⟨g2, t2, c2, _, _, _, hg2, ht2, hv2, hd2, hv, _⟩ := hv
 obtain ⟨_, _, _, _, _, _, _, _, _, _, hv, _⟩ := hv
 obtain ⟨g3, t3, c3, _, _, _, hg3, ht3, hv3, hd3, _, _⟩ := hv
 obtain rfl := Option.some.inj ((show Tryz.prog.globalNamed "math/bits.deBruijn64tab" = some 11 by kernel_rfl).symm.trans hg6)
 obtain rfl := Option.some.inj ((show Tryz.prog.globalNamed "internal/strconv.uint64pow10" = some 5 by kernel_rfl).symm.trans hg1)
 obtain rfl := Option.some.inj ((show Tryz.prog.globalNamed "unicode/utf8.acceptRanges" = some 2 by kernel_rfl).symm.trans hg4)
 obtain rfl := Option.some.inj ((show Tryz.prog.globalNamed "amend/text.words" = some 0 by kernel_rfl).symm.trans hg0)
 obtain rfl := Option.some.inj ((show Tryz.prog.globalNamed "amend/text.escapes" = some 7 by kernel_rfl).symm.trans hg2)
 obtain rfl := Option.some.inj ((show Tryz.prog.globalNamed "unicode/utf8.first" = some 1 by kernel_rfl).symm.trans hg3)
 obtain rfl := Option.some.inj ((show Tryz.prog.globalNamed "strconv.ErrRange" = some 9 by kernel_rfl).symm.trans hg5)
 obtain rfl := Option.some.inj ((show Tryz.prog.globalNamed "amend/pointer.escapes" = some 4 by kernel_rfl).symm.trans hg7)
 obtain rfl := Option.some.inj ((show (Tryz.prog.globals[9]?).map (·.type) = some 162 by kernel_rfl).symm.trans ht5)
 obtain rfl := Option.some.inj ((show (Tryz.prog.globals[4]?).map (·.type) = some 256 by kernel_rfl).symm.trans ht7)
 obtain rfl := Option.some.inj ((show (Tryz.prog.globals[5]?).map (·.type) = some 312 by kernel_rfl).symm.trans ht1)
 obtain rfl := Option.some.inj ((show (Tryz.prog.globals[2]?).map (·.type) = some 210 by kernel_rfl).symm.trans ht4)
 obtain rfl := Option.some.inj ((show (Tryz.prog.globals[0]?).map (·.type) = some 165 by kernel_rfl).symm.trans ht0)
 obtain rfl := Option.some.inj ((show (Tryz.prog.globals[7]?).map (·.type) = some 335 by kernel_rfl).symm.trans ht2)
 obtain rfl := Option.some.inj ((show (Tryz.prog.globals[1]?).map (·.type) = some 207 by kernel_rfl).symm.trans ht3)
 have e1 := (agg_cells Tryz.underlying312 (by kernel_rfl) flat1 (int_cells Tryz.underlying252) hd1).trans laid_pow
 have e4 := (agg_cells Tryz.underlying210 (by kernel_rfl) flat2 (pair_flat Tryz.underlying209 (by kernel_rfl) rfl rfl Tryz.underlying5 Tryz.underlying5 (by kernel_rfl) (by kernel_rfl)) hd4).trans laid_acc
 have e0 := (agg_cells Tryz.underlying165 (by kernel_rfl) flat1 (string_cells Tryz.underlying9) hd0).trans laid_words
 have e2 := (agg_cells Tryz.underlying335 (by kernel_rfl) flat2 (pair_flat Tryz.underlying334 (by kernel_rfl) rfl rfl Tryz.underlying5 Tryz.underlying21 (by kernel_rfl) (by kernel_rfl)) hd2).trans laid_esc
 have e3 := (agg_cells Tryz.underlying207 (by kernel_rfl) flat1 (int_cells Tryz.underlying5) hd3).trans laid_first
 have e7 := (agg_cells Tryz.underlying256 (by kernel_rfl) flat2 (spair_flat Tryz.underlying255 (by kernel_rfl) rfl rfl Tryz.underlying9 Tryz.underlying5 (by kernel_rfl) (by kernel_rfl)) hd7).trans laid_pesc
 obtain ⟨_, te, pe, e5, _⟩ := iface_of_trod Tryz.underlying162 hd5
 refine ⟨?_, ?_, ?_, ⟨fun c hc => ?_, fun i hi => ⟨?_, ?_⟩⟩, ?_, ?_, ?_, ?_⟩
 ·obtain ⟨t, fr, e⟩ := block_of hg6 hv6 rfl
  exact (Array.getElem?_eq_some_iff.1 e).1
 ·obtain ⟨t, fr, e⟩ := block_of hg2 hv2 e2
  exact ⟨t, fr, by simpa using e⟩
 ·obtain ⟨t, fr, e⟩ := block_of hg0 hv0 e0
  exact ⟨t, fr, by simpa using e⟩
 ·rw [World.var?_cell hg3 hv3, ← Array.getElem?_toList, e3, List.getElem?_map, List.getElem?_range hc]; rfl
 ·rw [World.var?_cell hg4 hv4, ← Array.getElem?_toList, e4, List.getElem?_map, List.getElem?_range (by omega), Option.map_some, if_pos (by omega), show 2 * i / 2 = i by omega]
 ·rw [World.var?_cell hg4 hv4, ← Array.getElem?_toList, e4, List.getElem?_map, List.getElem?_range (by omega), Option.map_some, if_neg (by omega), show (2 * i + 1) / 2 = i by omega]
 ·exact block_of hg1 hv1 e1
 ·obtain ⟨t, fr, e⟩ := block_of hg7 hv7 e7
  exact ⟨t, fr, by simpa using e⟩
 ·refine ⟨.iface te pe, ?_, Or.inr ⟨te, pe, rfl⟩⟩
  rw [World.var?_cell hg5 hv5, ← Array.getElem?_toList, e5]; rfl
 ·exact cell_of_shapedOpen_int (k := .i64) (t := 3) (zero := #[.int .i64 0]) hSh (of_decide_eq_true (by kernel_rfl)) (by kernel_rfl) rfl (by kernel_rfl) (by kernel_rfl) Tryz.underlying3
section
variable {H : Type} {enc : TypeId × Value → H} {P : Program}
theorem below_all (hl : laidOutB P = true) {W W' : World} (hb : Below W.heap.size W W') {sp : Nat → Bool} : ∀ {ts : List TypeId} {vs : List Value} {ds : List (DataW H)} {ps : List MemPlace}, (∀ t ∈ ts, P.readableRec t = true ∧ t < P.types.size) →
  DataW.TrodAll enc P W 0 (fun _ => true) true ts vs ds ps → (∀ x ∈ ps, x.block < W.heap.size) → (∀ x ∈ ps, sp x.block = true) → DataW.TrodAll enc P W' 0 sp true ts vs ds ps
 | [], _, _, _, _, h, _, _ => by
  obtain ⟨rfl, rfl, rfl⟩ := trodAll_nil h
  exact trodAll_mk0
 | t :: ts, _, _, _, hr, h, hlt, hs => by
  obtain ⟨v, vs1, d, ds1, a, b, rfl, rfl, rfl, h1, h2⟩ := trodAll_cons h
  obtain ⟨hr1, hr2⟩ := hr t List.mem_cons_self
  exact trodAll_cons_mk (WideElems.Trod_stays hl hr1 hr2 h1 (fun x hx => hb.same (hlt x (List.mem_append_left _ hx))) (fun x hx => hs x (List.mem_append_left _ hx)))
   (below_all hl hb (fun t ht => hr t (List.mem_cons_of_mem _ ht)) h2 (fun x hx => hlt x (List.mem_append_right _ hx)) (fun x hx => hs x (List.mem_append_right _ hx)))
theorem post_of_below {f : Func} {s : ChangeSpec} {apart fresh handsOn again : Bool} {W W' : World} {args : Array Value} {v : Value} {ds gs : List (DataW H)} {before : List MemPlace}
  (hl : laidOutB P = true) (hr : ∀ t ∈ f.params.toList, P.readableRec t = true ∧ t < P.types.size) (hsv : s.vars = [])
  (hW : DataW.Whole enc P f.params.toList s.vars apart W args.toList ds gs before) (hb : Below W.heap.size W W')
  (hres : ∀ (b : Nat) (sp : Nat → Bool) (hd : Bool), DataW.TrodAll enc P W' b sp hd f.resultTypes.toList (v.resultList f.resultTypes.size) (s.fn H (ds ++ gs)).results [])
  (hargs : (s.fn H (ds ++ gs)).args = ds) (hvars : (s.fn H (ds ++ gs)).vars = [])
  (hok : ∀ (j : Nat) (t : TypeId) (r : Value), f.resultTypes[j]? = some t → (v.resultList f.resultTypes.size)[j]? = some r → Value.okWide P W' .any 0 t r) :
  s.post enc P f apart fresh handsOn again W args v W' := by
 have hlt : ∀ p ∈ before, p.block < W.heap.size := fun p hp => by simpa using hW.lt p hp
 have hold : ∀ p ∈ before, (fun b => decide (b < W.heap.size)) p.block = true := fun p hp => by simpa using hlt p hp
 have hW0 := hW
 obtain ⟨p, q, hA0, hV, hpq, hz, hn⟩ := hW0
 have hA : DataW.TrodAll enc P W 0 (fun _ => true) true f.params.toList args.toList ds p := hA0
 rw [hsv] at hV
 obtain ⟨rfl, rfl⟩ := trodVars_none hV
 rw [List.append_nil] at hpq
 subst hpq
 have hA' : ∀ sp : Nat → Bool, (∀ p ∈ before, sp p.block = true) → DataW.TrodAll enc P W' 0 sp true f.params.toList args.toList (s.fn H (ds ++ [])).args before := fun sp hs => by
  rw [hargs]; exact below_all hl hb hr hA hlt hs
 have hV' : ∀ sp : Nat → Bool, DataW.TrodVars enc P W' sp s.vars (s.fn H (ds ++ [])).vars [] := fun sp => by rw [hsv, hvars]; exact rfl
 refine ⟨ds, [], before, [], before, [], hW, hres _ _ _, hA' _ hold, hV' _, hb.frame _, fun _ => ?_⟩
 refine ⟨hok, _, _, ([] ++ before) ++ [], ⟨[] ++ before, [], trodAll_append (hA' _ (fun _ _ => rfl)) (hres _ _ _), hV' _, rfl, ?_, ?_⟩, ?_⟩
 ·intro b off hp
  have hp' : MemPlace.cell b off ∈ before := by simpa using hp
  rw [hb.frozen (p := ⟨b, off, none⟩) (hlt _ hp')]
  exact hz b off hp'
 ·intro ha
  simpa using hn ha
 ·intro p hp _
  simpa using hp
end
theorem andT {a b : Bool} (ha : a = true) (hb : b = true) : (a && b) = true := by rw [ha, hb]; rfl
theorem handed_row {H : Type} {enc : TypeId × Value → H} {C : Checked} {os : Os} {f : FuncId} {fn : Func} {s : ChangeSpec} {conds : List PathCond} {apart fresh handsOn again : Bool} {laid : List (String × DataW Unit)}
  (own : ownKnob C.prog.godebug = none) (started : os.Started) (noInit : C.prog.inits.idxOf? f = none) (hfn : C.prog.funcs[f]? = some fn)
  (wit : ∃ (w : World) (tape : Tape) (i : Input), w.os = os ∧ (w.forCall tape i).Shaped C.prog ∧ i.vars = [] ∧ Input.okWide C.prog (w.forCall tape i) .any w.heap.size f i ∧
   ((s.pre enc C.prog fn conds apart (w.forCall tape i).memory i.args ∧ laidMetH C.prog laid (w.forCall tape i).memory) ∧ sizedMet enc C.prog fn (OpenSpec.ofChange s) apart (w.forCall tape i).memory i.args) ∧ ({} : Assume).holds C.prog (lone (Frame.enter C.prog f i.args .normal) [] (w.forCall tape i)))
  (go : ∀ (W : World) (base : Nat) (args : Array Value) (ds gs : List (DataW H)) (before : List MemPlace), (∀ (j : Nat) t v, fn.params[j]? = some t → args[j]? = some v → Value.okWide C.prog W .any base t v) →
   DataW.Whole enc C.prog fn.params.toList s.vars apart W args.toList ds gs before → (DataW.weightsEach C.prog (fn.params.toList ++ s.plain.varTypes C.prog) (ds ++ gs)).all (· ≤ reachBytes) = true → laidMetH C.prog laid W → W.ShapedOpen C.prog →
   Calls C.prog f args W fun e W' => ∃ v, e = .returned v ∧ s.post enc C.prog fn apart fresh handsOn again W args v W') :
  ReturnsInHanded {} C os f .any (fun w args => (s.pre enc C.prog fn conds apart w args ∧ laidMetH C.prog laid w) ∧ sizedMet enc C.prog fn (OpenSpec.ofChange s) apart w args) (s.post enc C.prog fn apart fresh handsOn again) :=
 returnsInHanded_of_row (s := OpenSpec.ofChange s) (F := fun _ _ _ => 0) own started noInit hfn wit fun W base args ds gs before h1 h2 _ _ h5 h6 h7 _ => go W base args ds gs before h1 h2 h5 h6 h7
end Go.Proofs.YtdpomdelmdofmaaGreatDoor
