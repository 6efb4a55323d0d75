/-
  Words of one letter for theorems of the library; and short words for what automation closes.
-/
import Derived.KernelRfl
import Derived.IntWalk
import Derived.Below
import Derived.Deep.AppendLies
import Derived.Deep.DeepHandedRow
import Derived.Deep.DrawnRows
import Derived.Deep.RegionHeld3
import Derived.Deep.Strs
import Derived.Deep.Upon
import Derived.LaidMore
import Derived.Laws.CopyOwn
import Derived.Lay
import Derived.Lib.AppendIntMem
import Derived.Lib.AppendZerosOnto
import Derived.Lib.ItoaLen
import Derived.Lib.OwnBridge
import Derived.Lib.SlMapEqual
import Derived.OpenShut
import Derived.ProofKit
import Derived.RangeFuncNested
import Derived.SevenTiedAt
import Derived.Shelf.SlIter.Nil
import Derived.Shelf.SlicesE.Clone
import Derived.Shelf.SlicesE.Delete
import Derived.Shelf.SlicesE.Equal
import Derived.Shelf.Small.Utf8
import Derived.Shelf.SortM.Plain
import Derived.Shelf.SortM.SortNone
import Derived.Shelf.Strconv.AtoiAll
import Derived.Shelf.Strconv.Itoa3
import Derived.Shelf.Strings.Prefix
import Derived.Shelf.Strings.Shaped
import Derived.Shelf.Strings.SlTrimAscii
import Derived.Shelf.Strings.Split
import Derived.Shelf.Unicode.Decode
import Derived.Shelf.Unicode.ValidAny
import Derived.Shelf.Utf8.AppendRunePlain
import Derived.WalkLawsBesides
import Derived.WalkSpells
open List renaming take_succ_eq_append_getElem->AI,eq_nil_of_length_eq_zero->AS,dropLast_concat_getLast->AT,drop_eq_getElem_cons->A2,getElem?_eq_some_iff->A3,getElem?_eq_getElem->A5,take_of_length_le->Bs,drop_eq_nil_of_le->B1,getElem_cons_zero->B2,mem_append_right->B4,getElem?_eq_none->CH,length_filter_le->C0,mem_cons_of_mem->C1,mem_of_getElem?->C2,mem_append_left->C6,mem_iff_getElem->DD,getLast?_concat->D0,map_congr_left->D1,getElem_of_mem->D2,length_pos_iff->D3,mergeSort_perm->D6,mem_map_of_mem->D9,flatMap_append->E0,length_reverse->E1,getD_cons_zero->E2,filter_eq_self->Ft,length_append->F5,mem_cons_self->G2,pairwise_cons->G3,mem_singleton->HA,getElem?_map->HC,flatMap_cons->HD,pairwise_map->HE,nodup_append->HF,append_assoc->HG,size_toArray->HI,length_cons->HJ,getElem_mem->HK,cons_append->HL,any_eq_true->HM,getElem_map->HN,mem_flatMap->HO,filter_cons->HP,not_mem_nil->HR,mem_reverse->HS,length_tail->HT,length_take->HU,length_drop->HW,nil_append->HZ,length_nil->H0,length_map->H1,mem_append->H3,nodup_cons->H4,map_append->H5,append_nil->H6,mem_filter->IN,tail_cons->I3,lt_irrefl->I4,drop_drop->I5,drop_zero->I7,mem_cons->I8,map_cons->K0,sum_cons->K1,any_cons->K3,all_cons->K4,mem_map->L0,map_map->L1,map_nil->L2,any_map->L4
open Array renaming getElem?_eq_some_iff->A1,getElem?_modify->CD,getElem?_toList->CR,toArray_toList->C5,getElem?_push->F2
open Go.WideShapes renaming insert_perm->A4
open Option renaming map_eq_some_iff->BY,getD_some->HQ,map_some->If
open ByteArray renaming size_extract->B3,size_append->CL
open Bool renaming or_eq_false_iff->DA,false_eq_true->HB,and_eq_true->HV,eq_iff_iff->IT,or_eq_true->I2,or_false->K2
open Nat renaming lt_of_lt_of_le->G1,succ_le_succ->HX,le_trans->LL,zero_add->L3,succ_pos->Mb,sub_self->Mk,le_refl->M0,zero_le->M2
open List.Pairwise renaming nil->HH
open Option.some renaming inj->HY
open UInt8 renaming toNat_inj->H2,toNat_lt->I6
open List.cons renaming injEq->IS
open Int renaming le_refl->M1
open Prod.mk renaming inj->No
namespace Go
theorem À:type_of% @Or.inr:=@Or.inr
theorem Á:type_of% @M0:=@M0
theorem Â:type_of% @Go.RowKit.Below.refl:=@Go.RowKit.Below.refl
theorem Ã:type_of% @LL:=@LL
theorem Ä:type_of% @Go.RowKit.Below.heap_alloc:=@Go.RowKit.Below.heap_alloc
theorem Å:type_of% @Or.inl:=@Or.inl
theorem Æ:type_of% @Go.RowKit.Below.heap_setCell:=@Go.RowKit.Below.heap_setCell
theorem Ç:type_of% @Go.World.cell?_of_block:=@Go.World.cell?_of_block
theorem È:type_of% @A1:=@A1
theorem É:type_of% @HJ:=@HJ
theorem Ê:type_of% @Go.heap_alloc_new:=@Go.heap_alloc_new
theorem Ë:type_of% @I8:=@I8
theorem Ì:type_of% @Go.bodyPost_ret:=@Go.bodyPost_ret
theorem Í:type_of% @AI:=@AI
theorem Î:type_of% @HY:=@HY
theorem Ï:type_of% @Bs:=@Bs
theorem Ð:type_of% @K0:=@K0
theorem Ñ:type_of% @F5:=@F5
theorem Ò:type_of% @L0:=@L0
theorem Ó:type_of% @HK:=@HK
theorem Ô:type_of% @A5:=@A5
theorem Õ:type_of% @G1:=@G1
theorem Ö:type_of% @Go.World.news_of_block:=@Go.World.news_of_block
theorem Ø:type_of% @C1:=@C1
theorem Ù:type_of% @HZ:=@HZ
theorem Ú:type_of% @Go.getD_set_ne:=@Go.getD_set_ne
theorem Û:type_of% @A2:=@A2
theorem Ü:type_of% @HL:=@HL
theorem Ý:type_of% @L1:=@L1
theorem Þ:type_of% @HC:=@HC
theorem ß:type_of% @A3:=@A3
theorem à:type_of% @BY:=@BY
theorem á:type_of% @H0:=@H0
theorem â:type_of% @G2:=@G2
theorem ã:type_of% @HD:=@HD
theorem ä:type_of% @D1:=@D1
theorem å:type_of% @Go.World.ownsRow_nil:=@Go.World.ownsRow_nil
theorem æ:type_of% @H1:=@H1
theorem ç:type_of% @Go.wpOp_step:=@Go.wpOp_step
theorem è:type_of% @HM:=@HM
theorem é:type_of% @HN:=@HN
theorem ê:type_of% @AS:=@AS
theorem ë:type_of% @AT:=@AT
theorem ì:type_of% @H2:=@H2
theorem í:type_of% @B1:=@B1
theorem î:type_of% @Go.WideAt.sameKey_self:=@Go.WideAt.sameKey_self
theorem ï:type_of% @Go.wpList_lookup_own_ok:=@Go.wpList_lookup_own_ok
theorem ð:type_of% @And.intro:=@And.intro
theorem ñ:type_of% @C2:=@C2
theorem ò:type_of% @Go.World.putObj_heap_other:=@Go.World.putObj_heap_other
theorem ó:type_of% @H3:=@H3
theorem ô:type_of% @G3:=@G3
theorem õ:type_of% @Go.wpList_append_lies:=@Go.wpList_append_lies
theorem ö:type_of% @A4:=@A4
theorem ø:type_of% @Go.wp_loop_rounds:=@Go.wp_loop_rounds
theorem ù:type_of% @D2:=@D2
theorem ú:type_of% @Go.getD_set_true:=@Go.getD_set_true
theorem û:type_of% @HO:=@HO
theorem ü:type_of% @HA:=@HA
theorem ý:type_of% @B4:=@B4
theorem þ:type_of% @Go.results_none:=@Go.results_none
theorem ÿ:type_of% @L2:=@L2
theorem Ā:type_of% @M1:=@M1
theorem ā:type_of% @H4:=@H4
theorem Ă:type_of% @Go.WideAt.atKey_mem:=@Go.WideAt.atKey_mem
theorem ă:type_of% @H5:=@H5
theorem Ą:type_of% @I3:=@I3
theorem ą:type_of% @Prod.ext:=@Prod.ext
theorem Ć:type_of% @HE:=@HE
theorem ć:type_of% @Go.WideAt.sameKey_eq:=@Go.WideAt.sameKey_eq
theorem Ĉ:type_of% @K1:=@K1
theorem ĉ:type_of% @H6:=@H6
theorem Ċ:type_of% @If:=@If
theorem ċ:type_of% @Go.Lib.cell_of_heap:=@Go.Lib.cell_of_heap
theorem Č:type_of% @Go.IntKind.wrap_i64:=@Go.IntKind.wrap_i64
theorem č:type_of% @HF:=@HF
theorem Ď:type_of% @M2:=@M2
theorem ď:type_of% @Go.rounds_succ:=@Go.rounds_succ
theorem Đ:type_of% @IN:=@IN
theorem đ:type_of% @IS:=@IS
theorem Ē:type_of% @D3:=@D3
theorem ē:type_of% @HG:=@HG
theorem Ĕ:type_of% @Go.World.frozen?_of_block:=@Go.World.frozen?_of_block
theorem ĕ:type_of% @D6:=@D6
theorem Ė:type_of% @Go.Lib.size_eq:=@Go.Lib.size_eq
theorem ė:type_of% @L3:=@L3
theorem Ę:type_of% @Go.AllReadyIn.cons:=@Go.AllReadyIn.cons
theorem ę:type_of% @Go.info_parts:=@Go.info_parts
theorem Ě:type_of% @C5:=@C5
theorem ě:type_of% @B2:=@B2
theorem Ĝ:type_of% @Go.bodyPost_end:=@Go.bodyPost_end
theorem ĝ:type_of% @Go.WideAt.bytes_irrefl:=@Go.WideAt.bytes_irrefl
theorem Ğ:type_of% @D9:=@D9
theorem ğ:type_of% @CD:=@CD
theorem Ġ:type_of% @HP:=@HP
theorem ġ:type_of% @Go.step_append_lies:=@Go.step_append_lies
theorem Ģ:type_of% @HQ:=@HQ
theorem ģ:type_of% @HR:=@HR
theorem Ĥ:type_of% @HS:=@HS
theorem ĥ:type_of% @Go.wpAnyIn_ready:=@Go.wpAnyIn_ready
theorem Ħ:type_of% @K2:=@K2
theorem ħ:type_of% @C6:=@C6
theorem Ĩ:type_of% @DA:=@DA
theorem ĩ:type_of% @Go.AllReadyIn.nil:=@Go.AllReadyIn.nil
theorem Ī:type_of% @HH:=@HH
theorem ī:type_of% @IT:=@IT
theorem Ĭ:type_of% @E0:=@E0
theorem ĭ:type_of% @Go.World.ownsRow.alloc:=@Go.World.ownsRow.alloc
theorem Į:type_of% @B3:=@B3
theorem į:type_of% @HT:=@HT
theorem İ:type_of% @HU:=@HU
theorem ı:type_of% @I4:=@I4
theorem Ĳ:type_of% @Go.DataW.trod_int:=@Go.DataW.trod_int
theorem ĳ:type_of% @CH:=@CH
theorem Ĵ:type_of% @CL:=@CL
theorem ĵ:type_of% @CR:=@CR
theorem Ķ:type_of% @I2:=@I2
theorem ķ:type_of% @Go.callsIn_wide:=@Go.callsIn_wide
theorem ĸ:type_of% @Go.wpList_mapUpdate_own:=@Go.wpList_mapUpdate_own
theorem Ĺ:type_of% @DD:=@DD
theorem ĺ:type_of% @No:=@No
theorem Ļ:type_of% @Go.DataW.trod_string:=@Go.DataW.trod_string
theorem ļ:type_of% @K3:=@K3
theorem Ľ:type_of% @E1:=@E1
theorem ľ:type_of% @E2:=@E2
theorem Ŀ:type_of% @Ft:=@Ft
theorem ŀ:type_of% @F2:=@F2
theorem Ł:type_of% @Go.World.grownBy.mk:=@Go.World.grownBy.mk
theorem ł:type_of% @HB:=@HB
theorem Ń:type_of% @L4:=@L4
theorem ń:type_of% @Mb:=@Mb
theorem Ņ:type_of% @Go.Oper.semAt_some:=@Go.Oper.semAt_some
theorem ņ:type_of% @C0:=@C0
theorem Ň:type_of% @HI:=@HI
theorem ň:type_of% @Ne.symm:=@Ne.symm
theorem ŉ:type_of% @I5:=@I5
theorem Ŋ:type_of% @I6:=@I6
theorem ŋ:type_of% @Go.wpOpIn_step:=@Go.wpOpIn_step
theorem Ō:type_of% @D0:=@D0
theorem ō:type_of% @HV:=@HV
theorem Ŏ:type_of% @HW:=@HW
theorem ŏ:type_of% @HX:=@HX
theorem Ő:type_of% @K4:=@K4
theorem ő:type_of% @Mk:=@Mk
theorem Œ:type_of% @I7:=@I7
end Go
namespace Go.RowKit
theorem Hid.u{p:Prop}(h:Hid p):p:=h
end Go.RowKit
namespace Go
theorem ω{p:Prop}(h:p:=by simp;omega):p:=h
theorem δ{p:Prop}(h:p:=by kernel_rfl):p:=h
theorem κ{p:Prop}(h:p:=by simp_all):p:=h
theorem ψ{p:Prop}(h:p:=by go_num):p:=h
theorem η{p:Prop}(h:p:=by decide):p:=h
theorem ζ{p:Prop}(h:p:=by omega):p:=h
theorem ε{p:Prop}(h:p:=by grind):p:=h
theorem φ{p:Prop}(h:p:=by simp):p:=h
theorem θ{p:Prop}(h:p:=by rfl):p:=h
end Go
