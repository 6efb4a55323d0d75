import Derived.Test.YtdpomdelmdofmaaGreatDoorPfx22
import Derived.Shelf.SlicesE.Delete
import Derived.Shelf.SlicesE.Clone
import Derived.Shelf.SlicesE.Equal
open Go.Proofs.Tryz renaming prog->AI
open Go renaming DataW->AS,Value->A2,wpList_lookup_own_ok->A3,World->A5,bytesBefore->D0,Calls->F2
open Go.WideAt renaming sameKey_self->AT,IsKeyLit->Bs,bytes_irrefl->BY
open Go.DataW renaming insert->A1
open Go.Lit renaming string->A4
open Nat renaming le_refl->A6
open Go.RowKit.Below renaming refl->CD
open Array renaming getElem?_eq_some_iff->CH
open List renaming getElem?_eq_some_iff->CL,filter_cons->C1,take_of_length_le->C2,mem_filter->Dp,map_set->D2,cons_append->D3,mem_cons->Ft
open Go.WideShapes renaming insert_perm->CR,bytes_trans->E0
open Go.RowKit renaming Below->Dt,intOf->F5
open Go.Instr renaming index->DD
open Go.Shelf renaming Ren->D1
open Go.Maps renaming has->F1
set_option maxRecDepth 100000
set_option maxHeartbeats 8000000
namespace Go.Proofs.YtdpomdelmdofmaaGreatDoor
open Go.Proofs.Tryz
open Go.RowKit Go.Maps
def KK(P:A5->A2->To->Prop)(r:Except Nat To)(e:Ending)(w':A5):Prop:=match r with
 | .ok d=>∃v,e=.returned (.tuple #[v,.int .i64 0])/\P w' v d
 | .error c=>e=.returned (.tuple #[.pointer none,.int .i64 c])
section
variable{w:A5}{b:Nat}{t:By}
theorem QC{m n:Nat}{D:List (Lit×AS A2)}{R:Ending->Prop}(ht:t.length<=1048576)(h:VB w b 6 n0 [] (.slice none 0 0) (.map (some m)))(ho:w.ownsMap AI 9 RV m n (.map D))
  (hno:F1 (.map D:AS A2) (.string t)=false->R (.returned (.tuple #[.pointer none,.int .i64 11])))
  (q4:F1 (.map D:AS A2) (.string t)=true -> ∃x,(∀z,(DataW.map D).atKey (.string t) z=.held x)/\R (.returned (.tuple #[x,.int .i64 0]))):
  F2 AI 111 #[.pointer (some ⟨b,0,none⟩),.string ⟨t.toArray⟩] w fun e w'=>R e/\Dt w.heap.size w w':=by
 have q8:=Ab Bw;have q7:=Ab (fun w=>B0 w);have c0:=h.c0;have c6:=h.c6;have q9:=Ab (Ee t ht);cases hh:F1 (.map D:AS A2) (.string t) with
 | false=>
  have q0:=Ab (hno hh);have HO:=Ab ho;have q5:=Ab hh;clear hno q4 h ho hh
  go_enter func111,ntmps111
  go_wp2_with (first|(at_lookup;refine A3 _ rfl _ _ 109 rfl 9 80 (Aa q8) underlying109 RV (Aa q7 _) (.held (.pointer none)) [] rfl m n (.map D) rfl (Aa HO) _ _ rfl (Aa q9) ?_;intro v2 qb q6;rw[Aa q5]))
  go_ret2
  exact⟨Aa q0,CD _ _⟩
 | true=>
  obtain⟨x,e4,hR⟩:=q4 hh;have q0:=Ab hR;have HO:=Ab ho;have q5:=Ab hh;clear hno q4 h ho hh hR
  go_enter func111,ntmps111
  go_wp2_with (first|(at_lookup;refine A3 _ rfl _ _ 109 rfl 9 80 (Aa q8) underlying109 RV (Aa q7 _) (.held (.pointer none)) [] rfl m n (.map D) rfl (Aa HO) _ _ rfl (Aa q9) ?_;intro v2 qb q6;rw[Aa q5];obtain⟨rfl,_⟩:=Cb q6 (e4 _)))
  go_ret2
  exact⟨Aa q0,CD _ _⟩
theorem QD{sl:A2}{ps:List A2}{R:Ending->Prop}(ht:t.length<=1048576)(hr:Rng w)(h:VB w b 5 n0 [] sl (.map none))(ho:w.ownsRow 0 80 1 sl ps.length ps)
  (q0:ZO t=none->R (.returned (.tuple #[.pointer none,.int .i64 12])))
  (hin:∀i (hi:i<ps.length),ZO t=some i->R (.returned (.tuple #[ps[i],.int .i64 0])))
  (q7:∀i,ZO t=some i->ps.length<=i->R (.returned (.tuple #[.pointer none,.int .i64 11]))):
  F2 AI 111 #[.pointer (some ⟨b,0,none⟩),.string ⟨t.toArray⟩] w fun e w'=>R e/\Dt w.heap.size w w':=by
 have c0:=h.c0;have c5:=h.c5;have qb:=h.lt;have hI:=Ab (FQ t w ht hr);obtain⟨N,hN⟩:∃N,N=ps.length:=⟨_,rfl⟩
 have q8:=DI ho;cases hi:ZO t with
 | none=>
  have q4:=Ab (q0 hi);rw[hi] at hI;clear ho h hr hi q8 c5 q0 hin q7
  go_enter func111,ntmps111
  go_wp2_with (fail);refine (Aa hI).mono ?_
  rintro e w2 ⟨rfl,hb⟩;unfold ET
  go_wp2_with (fail)
  go_ret2
  exact⟨Aa q4,hb⟩
 | some i=>
  rw[hi] at hI;by_cases q6:i<ps.length
  ·obtain⟨g,cap,rfl,a1,a2,a3,hc⟩:=Bh ho (by omega);have q4:=Ab (hin i q6 hi);have qd:=hc i q6;have qe:(N:Int)<=9223372036854775807:=by unfold maxLen at q8;omega
   have hlt:(i:Int)<(N:Int):=by omega
   clear q0 hin q7;generalize ps[i]=pv at *;have HC:=Ab qd;rw[<- hN] at c5 a1;have q9:=Ab c5;clear ho hr hi q8 hc qd c5
   go_enter func111,ntmps111
   go_wp2_with (fail);refine (Aa hI).mono ?_
   rintro e w2 ⟨rfl,hb⟩;have q5:=(hb.cell (p:=⟨b,5,none⟩) qb).trans (Aa q9);have qi:=(hb.cell (p:=⟨g,i,none⟩) a3).trans (Aa HC);have HB:=Ab hb;clear hb hN q6 h;unfold ET
   go_wp2_with (fail)
   go_ret2
   exact⟨Aa q4,Aa HB⟩
  ·have q4:=Ab (q7 i hi (by omega));obtain⟨g,cap,rfl⟩:=Cr ho;have hlt:¬ (i:Int)<(N:Int):=by omega
   rw[<- hN] at c5;have q9:=Ab c5;clear ho hr hi q8 c5 q0 hin q7
   go_enter func111,ntmps111
   go_wp2_with (fail);refine (Aa hI).mono ?_
   rintro e w2 ⟨rfl,hb⟩;have q5:=(hb.cell (p:=⟨b,5,none⟩) qb).trans (Aa q9);have HB:=Ab hb;clear hb hN q6 h;unfold ET
   go_wp2_with (fail)
   go_ret2
   exact⟨Aa q4,Aa HB⟩
end
structure Te(G:List By->A5->A2->To->Prop):Prop where
 call:∀ (s:List By) (w:A5) (v:A2) (d:To) (t:By),t.length<=1048576->Rng w->G s w v d->F2 AI 111 #[v,.string ⟨t.toArray⟩] w fun e w'=>KK (G (s++[t])) (AF d t) e w'/\Dt w.heap.size w w'
theorem YT{G:List By->A5->A2->To->Prop}(hG:Te G){w:A5}{v pv:A2}{d:To}{l:List By}(hl:∀t∈l,t.length<=1048576)(hn:l.length<=1048576)(hr:Rng w)(h:G [] w v d)(hp:CI w pv l):
  F2 AI 81 #[pv,v] w fun e w'=>KK (G l) (Ak d l) e w'/\Dt w.heap.size w w':=by
 rcases hp with⟨rfl,a,c,rfl,_⟩|⟨g,o,cap,rfl,_,_,a1,hc⟩
 ·have HH:=Ab h;clear hl hn hr h hG
  go_enter func81,ntmps81
  go_wp2_with (fail);refine wp_loop_rounds 1 ?_
  rw[rounds_succ]
  go_wp2_with (fail)
  go_ret2
  exact⟨⟨_,rfl,Aa HH⟩,CD _ _⟩
 obtain⟨N,hN⟩:∃N,N=l.length:=⟨_,rfl⟩
 obtain⟨R,hR⟩:∃R,R=Ak d l:=⟨_,rfl⟩
 rw[<- hR,<- hN];have qk:(N:Int)<=1048576:=by omega
 have HL:=Ab hl;have HC:=Ab hc;have HR:=Ab hr;have HH:=Ab h;have HG:=Ab hG;have HN:=Ab hN;have qf:=Ab hR;clear hl hc hr h hN hR hn hG
 go_enter func81,ntmps81
 go_wp2_with (fail)
 go_loopw [6,14] (fun a i wr=>∃ (k:Nat) (d':To),k<=N/\i=.int .i64 k/\G (l.take k) wr a d'/\Hid (Ak d l=Ak d' (l.drop k))/\Dt w.heap.size w wr) (fun _ i _=>N-(F5 i).toNat)
 case atStart=>exact⟨0,d,by omega,rfl,Aa HH,rfl,CD _ _⟩
 case round=>
  obtain⟨k,d',hk,rfl,q0,q7,hb⟩:=hrel;have HB:=Ab hb;have q8:=Ab q0;by_cases hlt:k<N
  ·have h1:k<l.length:=by have:=Aa HN;omega
   have q4:l.drop k=l[k]::l.drop (k+1):=List.drop_eq_getElem_cons h1;have q:=(hb.cell (p:=⟨g,o+k,none⟩) a1).trans (Aa HC k h1);have q5:=Ab ((Aa HG).call _ _ _ _ l[k] (Aa HL _ (List.getElem_mem h1)) ((Aa HR).kept hb) q0);have qb:(k:Int)<(N:Int):=by omega
   rw[q4] at q7;have HT:=Ab (show l.take (k+1)=l.take k++[l[k]] from List.take_succ_eq_append_getElem h1);have qg:=Ab (show Ak d l=(match AF d' l[k] with | .ok e=>Ak e (l.drop (k+1)) | .error c=>.error c) from q7);generalize l[k]=tk at *;clear q7 hb q0 q4 h1
   go_wp2_with (fail);refine (Aa q5).mono ?_
   rintro e w2 ⟨ho,hb2⟩;have qe:=Ab ((Aa HB).trans (hb2.mono (Aa HB).size));clear hb2 q5 q;cases hch:AF d' tk with
   | ok d2=>
    rw[hch] at ho;obtain⟨v2,rfl,qd⟩:=ho;have qj:=Ab (show G (l.take (k+1)) w2 v2 d2 by rw[Aa HT];exact qd);have qi:=Ab (show Ak d l=Ak d2 (l.drop (k+1)) by have h9:=Aa qg;rw[hch] at h9;exact h9);clear qd hch
    go_wp2_with (fail);exact⟨⟨k+1,d2,by omega,by go_num,Aa qj,Aa qi,Aa qe⟩,by simp only[F5];omega⟩
   | error c=>
    rw[hch] at ho;have qh:e=.returned (.tuple #[.pointer none,.int .i64 c]):=ho;subst qh;have q6:=Ab (show KK (G l) R (.returned (.tuple #[.pointer none,.int .i64 c])) w2 by
     have h9:=Aa qg;rw[hch] at h9;rw[Aa qf,h9];rfl)
    have q9:=EM hch;have e1:((c:Int)==0)=false:=by rw[beq_eq_false_iff_ne];omega
    have e2:((c:Int) != 0)=true:=by rw[bne_iff_ne];omega
    clear hch ho q9
    go_wp2_with (fail)
    go_ret2
    exact⟨Aa q6,Aa qe⟩
  ·have qb:¬ (k:Int)<(N:Int):=by omega
   have q6:=Ab (show ∀a,G (l.take k) wr a d'->KK (G l) R (.returned (.tuple #[a,.int .i64 0])) wr from fun a ha=>by
    rw[C2 (by have:=Aa HN;omega)] at ha;rw[Aa qf,show Ak d l=Ak d' (l.drop k) from q7,List.drop_eq_nil_of_le (by have:=Aa HN;omega)];exact⟨_,rfl,ha⟩)
   clear q7 hb q0
   go_wp2_with (fail)
   go_ret2
   exact⟨Aa q6 _ (Aa q8),Aa HB⟩
end Go.Proofs.YtdpomdelmdofmaaGreatDoor

set_option maxRecDepth 100000
set_option maxHeartbeats 2000000
namespace Go.Proofs.YtdpomdelmdofmaaGreatDoor
open Go.Proofs.Tryz
open Go.RowKit Go.Maps
variable{w:A5}{x:By×Bool×Bool}
noncomputable abbrev KE(v:A2):Option (AS A2×List MemPlace):=plainElem AI 176 v
theorem P0{k:Nat}(hk:k<6):KE (.int .i64 k)=some (.lit (.int .i64 k),[]):=plainElem_int underlying176 (by
 match k,hk with
 | 0,_=>decide
 | 1,_=>decide
 | 2,_=>decide
 | 3,_=>decide
 | 4,_=>decide
 | 5,_=>decide)
theorem Yz(w:A5):(zeroValue 176).run AI w=.ok (.int .i64 0) w:=by kernel_rfl
theorem RY(hT:GS w):
  F2 AI 114 #[] w fun e w'=>∃m,e=.returned (.map (some m))/\w.heap.size<=m/\w'.ownsMap AI 219 KE m 6 (nD 6)/\Dt w.heap.size w w':=by
 have qh:=@run_makeMap AI;have hlt:3<w.heap.size:=by obtain⟨t,fr,e⟩:=hT;exact (CH.1 e).1
 obtain⟨tt,fz,q7⟩:=hT;have q4:Dt w.heap.size w (w.alloc (.map #[] 0)):=(CD _ _).alloc (A6 _) _;have q8:=(q4.block _ hlt).trans q7;have H0:=Ab (show Dt w.heap.size w (w.alloc (.map #[] 0))/\(w.alloc (.map #[] 0)).ownsMap AI 219 KE w.heap.size 0 (nD 0) from⟨q4,World.ownsMap_made w AI 219 KE⟩);have q5:=Ab TX;clear q7 q4 hlt
 go_enter func114,ntmps114
 go_wp2_with (refine wpList_load_row rfl 220 _ rfl 3 rfl tt _ fz _ q8 underlying220 rfl (by kernel_rfl) ?_)
 clear q8
 go_loopw [6] (fun i wr=>∃k:Nat,k<=6/\i=.int .i64 k/\Hid (Dt w.heap.size w wr/\wr.ownsMap AI 219 KE w.heap.size k (nD k))) (fun i _=>6-(F5 i).toNat)
 case atStart=>exact⟨0,by omega,rfl,H0⟩
 case round=>
  obtain⟨k,hk,rfl,HI⟩:=hrel;by_cases h6:k=6
  ·subst h6
   go_wp2_with (fail)
   go_ret;exact⟨_,rfl,A6 _,(Aa HI).2,(Aa HI).1⟩
  ·have q0:k<6:=by omega
   have qf:(k:Int)<6:=by omega
   have q6:=fun w1=>Xs k q0 w1;have qe:=Ab (PR (opN k) (Il k q0));have HO:=Ab ((Aa HI).2.alloc (.cells #[.string ⟨(opN k).1.toArray⟩,.bool (opN k).2.1,.bool (opN k).2.2] 219));have HN:=Ab (show k<maxLen by unfold maxLen;omega);have HV:=Ab (P0 q0);have HB:=Ab ((Aa HI).1.alloc (Aa HI).1.size (.cells #[.string ⟨(opN k).1.toArray⟩,.bool (opN k).2.1,.bool (opN k).2.2] 219));unfold nv at q6;clear HI H0
   go_wp2_with (first|(at_mapUpdate;refine wpList_mapUpdate_own _ rfl _ _ _ 174 rfl 219 176 (Aa q5) underlying174 KE w.heap.size k (nD k) rfl (Aa HO) (Aa HN) _ _ _ rfl rfl (Aa qe) (.lit (.int .i64 k)) [] (Aa HV) ?_))
   intro w6 qb q9;have qd:=Ab qb;have qg:=Ab ((Aa HB).grown q9 (Aa HB).size (fun j hj=>by cases hj;exact A6 _));clear qb q9
   go_wp2_with (fail);exact⟨⟨k+1,by omega,by go_num,Aa qg,Aa qd⟩,by simp[F5];omega⟩
def en(x:By×Bool×Bool)(j:Nat):By×Bool×Bool:=if j=0 then (x.1,false,false) else if j=1 then (x.1,x.2.1,false) else (x.1,false,x.2.2)
def enC(s:ByteArray)(a b:Bool):Array A2:=#[.string s,.bool false,.bool false,.string s,.bool a,.bool false,.string s,.bool false,.bool b]
theorem Zb(s:ByteArray)(a b:Bool)(w:A5):(DD 259 (.agg (enC s a b)) (.int .i64 0)).run AI w=.ok (.agg #[.string s,.bool false,.bool false]) w:=by kernel_rfl
theorem Za(s:ByteArray)(a b:Bool)(w:A5):(DD 259 (.agg (enC s a b)) (.int .i64 1)).run AI w=.ok (.agg #[.string s,.bool a,.bool false]) w:=by kernel_rfl
theorem Y9(s:ByteArray)(a b:Bool)(w:A5):(DD 259 (.agg (enC s a b)) (.int .i64 2)).run AI w=.ok (.agg #[.string s,.bool false,.bool b]) w:=by kernel_rfl
theorem XS(x:By×Bool×Bool)(j:Nat)(hj:j<3)(w:A5):(DD 259 (.agg (enC ⟨x.1.toArray⟩ x.2.1 x.2.2)) (.int .i64 j)).run AI w=.ok (nv (en x j)) w:=by
 match j,hj with
 | 0,_=>exact Zb _ _ _ w
 | 1,_=>exact Za _ _ _ w
 | 2,_=>exact Y9 _ _ _ w
theorem Sw{j:Nat}(h:x.1.length<=1048576):(en x j).1.length<=1048576:=by unfold en;split;exact h;split<;>exact h
theorem Qc{j k:Nat}(hj:j<3)(h:∀q,q<j->Z1 (en x q)=none)(hk:Z1 (en x j)=some k):bK x=some k:=by
 unfold bK
 match j,hj with
 | 0,_=>rw[show Z1 (x.1,false,false)=some k from hk];rfl
 | 1,_=>rw[show Z1 (x.1,false,false)=none from h 0 (by omega),show Z1 (x.1,x.2.1,false)=some k from hk];rfl
 | 2,_=>rw[show Z1 (x.1,false,false)=none from h 0 (by omega),show Z1 (x.1,x.2.1,false)=none from h 1 (by omega),show Z1 (x.1,false,x.2.2)=some k from hk];rfl
theorem Oj(h:∀q,q<3->Z1 (en x q)=none):bK x=none:=by
 unfold bK;rw[show Z1 (x.1,false,false)=none from h 0 (by omega),show Z1 (x.1,x.2.1,false)=none from h 1 (by omega),show Z1 (x.1,false,x.2.2)=none from h 2 (by omega)];rfl
def L5(r:Option Nat):A2:=.tuple #[.int .i64 (r.getD 0:Nat),.bool r.isSome]
theorem Hv{w':A5}{m n:Nat}{D:AS A2}(h:w.ownsMap AI 219 KE m n D)(hk:w'.heap[m]? = w.heap[m]?):w'.ownsMap AI 219 KE m n D:=by
 obtain⟨es,q0,hb,r⟩:=h;exact⟨es,q0,hk.trans hb,r⟩
theorem Ux{m:Nat}(ho:w.ownsMap AI 219 KE m 6 (nD 6))(hx:x.1.length<=1048576):
  F2 AI 150 #[.map (some m),nv x] w fun e w'=>e=.returned (L5 (bK x))/\Dt w.heap.size w w':=by
 obtain⟨R,hR⟩:∃R,R=L5 (bK x):=⟨_,rfl⟩
 rw[<- hR];have HR:=Ab hR;have q4:=Ab TX;have HO:=Ab ho;have HX:=Ab hx;have qh:m<w.heap.size:=by obtain⟨es,q9,hb,_⟩:=ho;exact (CH.1 hb).1
 have qi:=Ab qh;have qb:=Ab (fun w=>Yz w);have q6:=Ab (fun j hj w=>XS x j hj w);unfold enC at q6;unfold nv;generalize (⟨x.1.toArray⟩:ByteArray)=sx at *;obtain⟨va,hva⟩:∃va,va=x.2.1:=⟨_,rfl⟩
 obtain⟨vb,hvb⟩:∃vb,vb=x.2.2:=⟨_,rfl⟩
 rw[<- hva,<- hvb] at q6 |-;clear hR ho hx qh hva hvb
 go_enter func150,ntmps150
 go_wp2_with (fail)
 go_loopw [26] (fun i wr=>∃j:Nat,j<=3/\i=.int .i64 j/\Hid (Dt w.heap.size w wr /\ ∀q,q<j->Z1 (en x q)=none)) (fun i _=>3-(F5 i).toNat)
 case atStart=>exact⟨0,by omega,rfl,((CD _ _).alloc (A6 _) _).alloc (by simp) _,fun q hq=>absurd hq (by omega)⟩
 case round=>
  obtain⟨j,hj,rfl,HI⟩:=hrel;by_cases h3:j=3
  ·subst h3;have HV:=Ab (show R=L5 none by rw[Aa HR,Oj (Aa HI).2])
   go_wp2_with (fail)
   go_ret2
   exact⟨by rw[Aa HV];rfl,(Aa HI).1⟩
  ·have qg:j<3:=by omega
   have qn:(j:Int)<3:=by omega
   have q7:=fun w1=>Aa q6 j qg w1;unfold nv at q7;have qf:=Ab (PR (en x j) (Sw (Aa HX)));have HB:=Ab ((Aa HI).1.alloc (Aa HI).1.size (.cells #[.string ⟨(en x j).1.toArray⟩,.bool (en x j).2.1,.bool (en x j).2.2] 219));have qe:=Ab (Hv (Aa HO) ((Aa HB).block m (Aa qi)));cases hn:Z1 (en x j) with
   | none=>
    have HH:=Ab (Vb (k:=6) (Sw (j:=j) (Aa HX)) (A6 _) fun i hi=>dP hn i hi);have q0:=Ab (show ∀q,q<j+1->Z1 (en x q)=none from fun q hq=>if e:q=j then e▸hn else (Aa HI).2 q (by omega));clear hn HI
    go_wp2_with (first|(at_lookup;refine A3 _ rfl _ _ 174 rfl 219 176 (Aa q4) underlying174 KE (Aa qb _) (.lit (.int .i64 0)) [] (P0 (k:=0) (by omega)) m 6 (nD 6) rfl (Aa qe) _ _ rfl (Aa qf) ?_;intro v2 qj q5;clear q5;rw[Aa HH]))
    exact⟨⟨j+1,by omega,by go_num,Aa HB,Aa q0⟩,by simp[F5];omega⟩
   | some k=>
    obtain⟨qm,qd⟩:=dQ hn;obtain⟨hh,q8⟩:=RA (k:=6) (i:=k) (A6 _) qm;rw[<- qd] at hh q8
    have HV:=Ab (show R=.tuple #[.int .i64 k,.bool true] by rw[Aa HR,Qc qg (Aa HI).2 hn];rfl);have HH:=Ab hh;have qk:=Ab (fun (v:A2) (ps:List MemPlace) (h:KE v=some ((nD 6).atKey (DK (en x j)) (.lit (.int .i64 0)),ps))=>(show v=.int .i64 k from by
     obtain⟨c,e1,e2,_⟩:=plainElem_int_inv underlying176 h;have e3:=congrArg Prod.fst e2;simp only[q8] at e3;rw[e1];injection e3 with e3;injection e3 with _ e3;rw[e3]))
    clear hn HI qd hh q8
    go_wp2_with (first|(at_lookup;refine A3 _ rfl _ _ 174 rfl 219 176 (Aa q4) underlying174 KE (Aa qb _) (.lit (.int .i64 0)) [] (P0 (k:=0) (by omega)) m 6 (nD 6) rfl (Aa qe) _ _ rfl (Aa qf) ?_;intro v2 qj q5;obtain rfl:=Aa qk _ _ q5;clear q5;rw[Aa HH]))
    go_ret2
    exact⟨by rw[Aa HV];rfl,Aa HB⟩
end Go.Proofs.YtdpomdelmdofmaaGreatDoor

namespace Go.Proofs
open Go.Shelf
def Tryz.eDelete_ren:D1:=⟨fun|45=>290|n=>n,fun|22=>106|23=>80|3=>3|4=>4|0=>0|n=>n,fun|n=>n⟩
theorem Tryz.eDelete:Go.Proofs.SlLaysE.n45 AI Tryz.eDelete_ren:={
 mixed:=by kernel_rfl
 f45:=⟨Tryz.f290.name,by decide,Tryz.func290.trans (congrArg some (by kernel_rfl))⟩
 t0:=underlying0
 a0:=Tryz.isAgg0
 z0:=Tryz.sizeOf0
 v0:=Tryz.zeroValue0
 t3:=underlying3
 a3:=Tryz.isAgg3
 z3:=Tryz.sizeOf3
 v3:=Tryz.zeroValue3
 t4:=underlying4
 a4:=Tryz.isAgg4
 z4:=Tryz.sizeOf4
 v4:=Tryz.zeroValue4
 t22:=underlying106
 a22:=Tryz.isAgg106
 z22:=Tryz.sizeOf106
 v22:=Tryz.zeroValue106
 a23:=Tryz.isAgg80
 z23:=Tryz.sizeOf80 }
def Tryz.eClone_ren:D1:=⟨fun|41=>289|n=>n,fun|22=>121|23=>9|4=>4|n=>n,fun|n=>n⟩
theorem Tryz.eClone:Go.Proofs.SlLaysE0.n41 AI Tryz.eClone_ren:={
 mixed:=by kernel_rfl
 f41:=⟨Tryz.f289.name,by decide,Tryz.func289.trans (congrArg some (by kernel_rfl))⟩
 t4:=underlying4
 a4:=Tryz.isAgg4
 z4:=Tryz.sizeOf4
 v4:=Tryz.zeroValue4
 t22:=underlying121
 a22:=Tryz.isAgg121
 z22:=Tryz.sizeOf121
 v22:=Tryz.zeroValue121 }
def Tryz.eEqual_ren:D1:=⟨fun|33=>202|n=>n,fun|22=>121|23=>9|4=>4|3=>3|0=>0|n=>n,fun|n=>n⟩
theorem Tryz.eEqual:Go.Proofs.SlLaysE.n33 AI Tryz.eEqual_ren:={
 mixed:=by kernel_rfl
 f33:=⟨Tryz.f202.name,by decide,Tryz.func202.trans (congrArg some (by kernel_rfl))⟩
 t0:=underlying0
 a0:=Tryz.isAgg0
 z0:=Tryz.sizeOf0
 v0:=Tryz.zeroValue0
 t3:=underlying3
 a3:=Tryz.isAgg3
 z3:=Tryz.sizeOf3
 v3:=Tryz.zeroValue3
 t4:=underlying4
 a4:=Tryz.isAgg4
 z4:=Tryz.sizeOf4
 v4:=Tryz.zeroValue4
 t22:=underlying121
 a22:=Tryz.isAgg121
 z22:=Tryz.sizeOf121
 v22:=Tryz.zeroValue121
 a23:=Tryz.isAgg9
 z23:=Tryz.sizeOf9 }
end Go.Proofs

namespace Go.Proofs.YtdpomdelmdofmaaGreatDoor
open Go.Proofs.Tryz
open Go.RowKit Go.Maps

theorem Hh{t:By}{i:Nat}{e:To}(hi:aQ e t=some i){e':To}(he:(Cj e)[i]? = some e'):∀ {s:List By} {d:To} {p:List Nat},Dq d s=some p->B5 p d=some e->Dq d (s++[t])=some (p++[i])
 | [],d,p,h,h2=>by
  injection h with h;subst h;injection h2 with h2;subst h2;simp[Dq,hi,he]
 | u::s,d,p,h,h2=>by
  unfold Dq at h;split at h
  ·cases h
  ·rename_i j hj;split at h
   ·cases h
   ·rename_i x hx;obtain⟨q,hq,rfl⟩:=Option.map_eq_some_iff.1 h;unfold B5 at h2;rw[hx] at h2;have ih:=Hh hi he hq h2;rw[D3,Dq,hj]
    grind
theorem GY{es:List To}{t:By}{e:To}(h:AF (Ap es) t=.ok e):∃i,ZO t=some i/\es[i]? = some e/\aQ (Ap es) t=some i:=by
 grind [Ap,AF,aQ]

theorem Dw{f:Nat}{w:A5}{v:A2}{a:Zf}(h:Ad (f+1) w v a):Cj (Zi (f+1) a)=(AH a).map (Zi f):=by
 obtain⟨b,g,x,rfl,hv,h⟩:=h;rcases h with⟨k,_,_,rfl,h⟩|⟨n,_,rfl,h,q0⟩|⟨s,_,rfl,h⟩|⟨al,sl,ps,rfl,h,ho,hs,ha⟩|⟨es,n,D,rfl,h,ho,hp⟩
 ·rfl
 ·rfl
 ·rfl
 ·rfl
 ·rw[AZ,Bx];show (es.map fun p=>(p.1,Zi f p.2)).map Prod.snd=(es.map Prod.snd).map (Zi f)
  simp_all
theorem Gw{f:Nat}{w:A5}:∀ {p:List Nat} {v:A2} {a n:Zf},Ad (f+p.length) w v a->Zo p a=some n->B5 p (Zi (f+p.length) a)=some (Zi f n)
 | [],v,a,n,h,hs=>by
  grind [Zo,B5,Zi]
 | i::r,v,a,n,h,hs=>by
  obtain⟨c,hc,h2⟩:=Ce hs;have h':Ad ((f+r.length)+1) w v a:=h;have hk:=Dw h';obtain⟨u,hu⟩:∃u,Ad (f+r.length) w u c:=by
   have:=Ad.at (f:=f+r.length) (p:=[i]) h' (show Zo [i] a=some c by simp[Zo,hc]);exact this
  have ih:=Gw hu h2
  grind [Zo,B5,Zi]
theorem Gx{i:Nat}{c n:Zf}(hc:(AH n)[i]? = some c):∀ {p:List Nat} {a:Zf},Zo p a=some n->Zo (p++[i]) a=some c
 | [],a,h=>by
  injection h with h;subst h;simp[Zo,hc]
 | j::r,a,h=>by
  obtain⟨x,hx,h2⟩:=Ce h;rw[D3,Zo,hx];exact Gx hc h2
theorem Ad.bel{f:Nat}{w w':A5}{v:A2}{a:Zf}(h:Ad f w v a)(hb:Dt w.heap.size w w'):Ad f w' v a:=h.move fun k hk=>hb.block k (h.lt k hk)
def InT(fa:Nat)(v:A2)(a:Zf)(s:List By)(w:A5)(u:A2)(d:To):Prop:=
 Ad fa w v a /\ ∃f p n,f+p.length=fa/\Zo p a=some n/\Ad f w u n/\Zi f n=d/\Dq (Zi fa a) s=some p
end Go.Proofs.YtdpomdelmdofmaaGreatDoor

namespace Go.Proofs.YtdpomdelmdofmaaGreatDoor
open Go.Proofs.Tryz
open Go.RowKit Go.Maps
variable{α β:Type}{i f:Nat}{k:By}{a c:Zf}

theorem RS(c:α){l:List α}(h:i<=l.length):ZN i (ZS i c l)=l:=by
 have h1:(l.take i).length=i:=by grind
 unfold ZN ZS;rw[List.take_append_of_le_length (by omega),C2 (by omega),List.drop_append,List.drop_of_length_le (by omega),h1];simp
theorem Hu{c:α}{l:List α}(h:l[i]? = some c):ZS i c (ZN i l)=l:=by
 obtain⟨hi,rfl⟩:=CL.1 h;have h1:(l.take i).length=i:=by grind
 unfold ZN ZS
 simp_all
theorem RO{c d:α}{l:List α}(h:l[i]? = some c):(l.set i d).set i c=l:=by
 grind [List.set_set,List.set_getElem_self]
theorem IW(q:α->β)(i:Nat)(c:α)(l:List α):(ZS i c l).map q=ZS i (q c) (l.map q):=by
 unfold ZS;simp
theorem IX(q:α->β)(i:Nat)(l:List α):(ZN i l).map q=ZN i (l.map q):=by
 unfold ZN;simp
theorem GH(c:α){l:List α}(h:i<=l.length):(ZS i c l).length=l.length+1:=by
 grind [ZS]
theorem IZ{l:List α}(h:i<l.length):(ZN i l).length+1=l.length:=by
 grind [ZN]
theorem EF(i:Nat)(c:α)(l:List α):(ZS i c l).Perm (c::l):=by
 unfold ZS;have:=List.perm_middle (a:=c) (l₁:=l.take i) (l₂:=l.drop i)
 simp_all
theorem FE{c:α}{l:List α}(h:l[i]? = some c):l.Perm (c::ZN i l):=by
 have h1:=EF i c (ZN i l)
 rwa [Hu h] at h1
theorem K8{c:α}{l:List α}(d:α)(h:l[i]? = some c):(l.set i d).Perm (d::ZN i l):=by
 obtain⟨hi,_⟩:=CL.1 h;have e:l.set i d=ZS i d (ZN i l):=by
  have h2:=Hu (i:=i) (c:=d) (l:=l.set i d) (by grind);rw[<- h2];congr 1;unfold ZN;rw[List.take_set_of_le (by omega),List.drop_set_of_lt (by omega)]
 rw[e];exact EF i d _
def AL{α:Type}(es:List (Lit×AS α)):Prop:=es.Pairwise (fun p q=>p.1.before q.1=true) /\ ∀p∈es,∃s,p.1=.string s
theorem CU{s t:By}:(A4 s).sameKey (.string t)=true<->s=t:=by
 constructor
 ·intro h;have:=WideAt.sameKey_eq h
  grind
 ·rintro rfl;exact AT trivial
theorem FW{es:List (Lit×AS α)}(h:∀p∈es,p.1 ≠ .string k):es.filter (fun p=>!p.1.sameKey (.string k))=es:=by
 apply List.filter_eq_self.2;intro p hp;rw[sameKey_ne (h p hp)];rfl
theorem FG{α:Type}{k:By}{c:AS α}:∀ {es:List (Lit×AS α)},AL es->(A4 k,c)∈es->Zr (.string k) c es=es
 | [],_,h=>by cases h
 | y::r,⟨h1,h2⟩,h=>by
  obtain⟨h3,h4⟩:=List.pairwise_cons.1 h1;obtain⟨t,ht⟩:=h2 y (by simp);unfold Zr;rcases Ft.1 h with e|h
  ·subst e;have q0:∀p∈r,p.1 ≠ .string k:=fun p hp e=>by
    have:=h3 p hp;rw[show p.1=A4 k from e] at this;have h9:D0 k k=true:=this;rw[BY] at h9;cases h9
   rw[C1,if_neg (by rw[AT (show Bs (A4 k,c).1 from trivial)];decide),FW q0];cases r with
   | nil=>rfl
   | cons z r=>rw[A1,if_pos (h3 z (by simp))]
  ·have hb:=h3 _ h;have q0:y.1 ≠ .string k:=fun e=>by
    rw[e] at hb;have h9:D0 k k=true:=hb;rw[BY] at h9;cases h9
   rw[C1,if_pos (by rw[sameKey_ne q0];rfl)];have q4:Lit.before (.string k) y.1=false:=by
    cases hx:Lit.before (.string k) y.1 with
    | false=>rfl
    | true=>
     rw[ht] at hb hx;have h9:=E0 _ _ _ (show D0 k t=true from hx) (show D0 t k=true from hb);rw[BY] at h9;cases h9
   rw[A1,if_neg (by grind)];have ih:=FG ⟨h4,by grind⟩ h;unfold Zr at ih;rw[ih]
theorem Lh(c:AS α)(es:List (Lit×AS α)):ZF (.string k) (Zr (.string k) c es)=ZF (.string k) es:=by
 unfold Zr;have h:∀l:List (Lit×AS α),(A1 (.string k,c) l).filter (fun p=>!p.1.sameKey (.string k))=l.filter (fun p=>!p.1.sameKey (.string k)):=by
  intro l;induction l with
  | nil=>simp[A1,AT (show Bs (A4 k) from trivial)]
  | cons y r ih=>
   rw[A1];split
   ·rw[C1,if_neg (by rw[AT (show Bs (A4 k,c).1 from trivial)];decide)]
   grind
 unfold ZF
 simp_all
theorem RN{es:List (Lit×AS α)}(h:∀p∈es,p.1 ≠ .string k):ZF (.string k) es=es:=FW h
theorem Hp(c:AS α)(es:List (Lit×AS α)):Zr (.string k) c (ZF (.string k) es)=Zr (.string k) c es:=by
 grind [List.filter_filter,Zr,ZF]
theorem RG(c d:AS α)(es:List (Lit×AS α)):Zr (.string k) c (Zr (.string k) d es)=Zr (.string k) c es:=by
 rw[<- Hp c (Zr (.string k) d es),Lh,Hp]
theorem Ew(q:AS α->AS β)(k:Lit)(es:List (Lit×AS α)):(ZF k es).map (fun p=>(p.1,q p.2))=ZF k (es.map fun p=>(p.1,q p.2)):=by
 unfold ZF;rw[List.filter_map];rfl
theorem Og(q:AS α->AS β)(x:Lit×AS α)(l:List (Lit×AS α)):(A1 x l).map (fun p=>(p.1,q p.2))=A1 (x.1,q x.2) (l.map fun p=>(p.1,q p.2)):=by
 induction l with
 | nil=>rfl
 | cons y r ih=>
  simp only[A1,List.map_cons]
  grind
theorem Fk(q:AS α->AS β)(k:Lit)(c:AS α)(es:List (Lit×AS α)):(Zr k c es).map (fun p=>(p.1,q p.2))=Zr k (q c) (es.map fun p=>(p.1,q p.2)):=by
 unfold Zr;rw[Og];have:=Ew q k es;unfold ZF at this;rw[this]
theorem FF{c:To}{es:List (Lit×To)}(h:AL es):AL (Zr (.string k) c es):=by
 unfold Zr;have hs:∀p∈es.filter (fun p=>!p.1.sameKey (.string k)),∃s,p.1=.string s:=fun p hp=>h.2 p (Dp.1 hp).1;refine⟨GW ⟨k,rfl⟩ hs (fun p hp e=>?_) (h.1.filter _),fun p hp=>?_⟩
 ·have:=(Dp.1 hp).2;rw[show p.1=A4 k from e,AT (show Bs (A4 k) from trivial)] at this;cases this
 ·rcases Ft.1 ((CR _ _).mem_iff.1 hp) with rfl|hp
  ·grind
  grind
theorem Lg{k:Lit}{es:List (Lit×AS α)}(h:AL es):AL (ZF k es):=⟨h.1.filter _,fun p hp=>h.2 p (Dp.1 hp).1⟩
theorem C4(k:Lit)(c:AS α)(es:List (Lit×AS α)):(Zr k c es).Perm ((k,c)::ZF k es):=CR _ _
theorem Ro{c:AS α}{es:List (Lit×AS α)}(hs:AL es)(h:(A4 k,c)∈es):es.Perm ((.string k,c)::ZF (.string k) es):=by
 have:=C4 (.string k) c es
 rwa [FG hs h] at this
def bF(F:List Zf->List Zf)(G:List (Lit×Zf)->List (Lit×Zf))(a:Zf):Zf:=match a with
 | .agg [.lit (.int k b),.lit (.int l g),x]=>(match x with
  | .slice al y=>.agg [.lit (.int k b),.lit (.int l g),.slice (F al) y]
  | .map es=>.agg [.lit (.int k b),.lit (.int l g),.map (G es)]
  | z=>.agg [.lit (.int k b),.lit (.int l g),z])
 | y=>y
def BI(i:Nat)(k:By)(c:Zf):Zf->Zf:=bF (ZS i c) (Zr (.string k) c)
def B6(i:Nat)(k:By):Zf->Zf:=bF (ZN i) (ZF (.string k))
def Br(i:Nat)(k:By)(c:Zf):Zf->Zf:=bF (fun al=>al.set i c) (Zr (.string k) c)
theorem C9(F:List Zf->List Zf)(G:List (Lit×Zf)->List (Lit×Zf))(b g:Nat)(al:List Zf):bF F G (Zj b g (.slice al []))=Zj b g (.slice (F al) []):=rfl
theorem CG(F:List Zf->List Zf)(G:List (Lit×Zf)->List (Lit×Zf))(b g:Nat)(es:List (Lit×Zf)):bF F G (Zj b g (.map es))=Zj b g (.map (G es)):=rfl
theorem Qg{F F':List Zf->List Zf}{G G':List (Lit×Zf)->List (Lit×Zf)}(hF:∀al,(F al).map (er f)=F' (al.map (er f)))(hG:∀es,(G es).map (fun p=>(p.1,er f p.2))=G' (es.map fun p=>(p.1,er f p.2)))(h:(∃b g al,a=Zj b g (.slice al [])) \/ ∃b g es,a=Zj b g (.map es)):er (f+1) (bF F G a)=bF F' G' (er (f+1) a):=by
 grind [C9,bV,CG,cJ]
def aR(a:Zf):Prop:=(∃b g al,a=Zj b g (.slice al [])) \/ ∃b g es,a=Zj b g (.map es)
theorem Sv(h:aR a):er (f+1) (BI i k c a)=BI i k (er f c) (er (f+1) a):=Qg (fun _=>IW _ _ _ _) (fun _=>Fk _ _ _ _) h
theorem Sr(h:aR a):er (f+1) (B6 i k a)=B6 i k (er (f+1) a):=Qg (fun _=>IX _ _ _) (fun _=>Ew _ _ _) h
theorem Sn(h:aR a):er (f+1) (Br i k c a)=Br i k (er f c) (er (f+1) a):=Qg (fun _=>D2) (fun _=>Fk _ _ _ _) h
theorem OL(h:aR a):Zi (f+1) (BI i k c a)=FV i k (Zi f c) (Zi (f+1) a):=by
 rcases h with⟨b,g,al,rfl⟩|⟨b,g,es,rfl⟩
 ·unfold BI;rw[C9,Bn,Bn,IW];rfl
 ·unfold BI;rw[CG,AZ,AZ,Fk];rfl
theorem VL(h:aR a):Zi (f+1) (B6 i k a)=Kk i k (Zi (f+1) a):=by
 rcases h with⟨b,g,al,rfl⟩|⟨b,g,es,rfl⟩
 ·unfold B6;rw[C9,Bn,Bn,IX];rfl
 ·unfold B6;rw[CG,AZ,AZ,Ew];rfl
theorem OJ(h:aR a):Zi (f+1) (Br i k c a)=Hc i k (Zi f c) (Zi (f+1) a):=by
 rcases h with⟨b,g,al,rfl⟩|⟨b,g,es,rfl⟩
 ·unfold Br;rw[C9,Bn,Bn,D2];rfl
 ·unfold Br;rw[CG,AZ,AZ,Fk];rfl
theorem VN{w:A5}{u:A2}(h:Ad (f+1) w u a)(c:Zf):Zi (f+1) (Z6 a i c)=Pz i (Zi f c) (Zi (f+1) a):=by
 obtain⟨b,g,x,rfl,hv,h⟩:=h;rcases h with⟨k,h1,h2,rfl,h⟩|⟨n,h2,rfl,h,q0⟩|⟨s,h2,rfl,h⟩|⟨al,sl,ps,rfl,h,ho,hs,ha⟩|⟨es,n,D,rfl,h,ho,hp⟩
 ·rfl
 ·rfl
 ·rfl
 ·rw[Kx,Bn,Bn,D2];rfl
 ·rw[Kw,AZ,AZ,GE (fun p:Lit×Zf=>(p.1,Zi f p.2)) (fun p=>(p.1,c)) (fun p=>(p.1,Zi f c)) fun p=>rfl];rfl
theorem OK{w:A5}:∀ {p:List Nat} {f:Nat} {u:A2} {a n:Zf} (n':Zf),Ad (f+p.length) w u a->Zo p a=some n->Zi (f+p.length) (Zs p n' a)=Cd p (Zi f n') (Zi (f+p.length) a)
 | [],_,_,_,_,_,_,_=>rfl
 | i::r,f,u,a,n,n',ht,h=>by
  obtain⟨c,hc,h2⟩:=Ce h;have h':Ad ((f+r.length)+1) w u a:=ht;obtain⟨x,hx⟩:∃u,Ad (f+r.length) w u c:=Ad.at (f:=f+r.length) (p:=[i]) h' (show Zo [i] a=some c by simp[Zo,hc]);have hk:(Cj (Zi ((f+r.length)+1) a))[i]? = some (Zi (f+r.length) c):=by rw[Dw h',List.getElem?_map,hc];rfl
  rw[BE n' hc];show Zi ((f+r.length)+1) _=Cd (i::r) _ (Zi ((f+r.length)+1) a);rw[VN h',Cd,hk,OK n' hx h2]

end Go.Proofs.YtdpomdelmdofmaaGreatDoor
