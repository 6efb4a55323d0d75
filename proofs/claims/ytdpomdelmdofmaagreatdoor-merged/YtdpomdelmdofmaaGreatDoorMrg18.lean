/-
  What is done within a node of a tree: put in, taken away, put in another's place; and taken back.
-/
import Derived.Test.YtdpomdelmdofmaaGreatDoorMrg17
import Derived.Test.YtdpomdelmdofmaaGreatDoorMrg14
import Derived.Test.YtdpomdelmdofmaaGreatDoorMrg16
import Derived.Test.YtdpomdelmdofmaaGreatDoorMrg12
import Derived.Test.YtdpomdelmdofmaaGreatDoorMrg10
import Derived.Test.YtdpomdelmdofmaaGreatDoorMrg13
import Derived.Lib.OwnBridge
import Derived.Laws.Externs
import Derived.Laws.CopyOwn
import Derived.Laws.AppendOwn
import Derived.Deep.AppendLies
import Derived.Lib.AppendZerosOnto
import Derived.Deep.RegionLaw
namespace Go.Proofs.YtdpomdelmdofmaaGreatDoor
section
open Go.RowKit Go.Maps
namespace Sp
theorem ldel_lins {α:Type} {i:Nat} (c:α) {l:List α} (h:i≤l.length):ldel i (lins i c l)=l:=by
 have h1:(l.take i).length=i:=by rw[List.length_take];omega
 unfold ldel lins
 rw[List.take_append_of_le_length (by omega),List.take_of_length_le (by omega),List.drop_append,List.drop_of_length_le (by omega),h1]
 simp
theorem lins_ldel {α:Type} {i:Nat} {c:α} {l:List α} (h:l[i]? = some c):lins i c (ldel i l)=l:=by
 obtain⟨hi,rfl⟩:=List.getElem?_eq_some_iff.1 h
 have h1:(l.take i).length=i:=by rw[List.length_take];omega
 unfold ldel lins
 rw[List.take_append_of_le_length (by omega),List.take_of_length_le (by omega),List.drop_append,List.drop_of_length_le (by omega),h1]
 simp
theorem lset_lset {α:Type} {i:Nat} {c d:α} {l:List α} (h:l[i]? = some c):(l.set i d).set i c=l:=by
 obtain⟨hi,rfl⟩:=List.getElem?_eq_some_iff.1 h
 rw[List.set_set,List.set_getElem_self]
theorem map_lins {α β:Type} (q:α→β) (i:Nat) (c:α) (l:List α):(lins i c l).map q=lins i (q c) (l.map q):=by
 unfold lins;simp
theorem map_ldel {α β:Type} (q:α→β) (i:Nat) (l:List α):(ldel i l).map q=ldel i (l.map q):=by
 unfold ldel;simp
theorem len_lins {α:Type} {i:Nat} (c:α) {l:List α} (h:i≤l.length):(lins i c l).length=l.length+1:=by
 unfold lins;simp;omega
theorem len_ldel {α:Type} {i:Nat} {l:List α} (h:i<l.length):(ldel i l).length+1=l.length:=by
 unfold ldel;simp;omega
theorem perm_lins {α:Type} (i:Nat) (c:α) (l:List α):(lins i c l).Perm (c::l):=by
 unfold lins
 have:=List.perm_middle (a:=c) (l₁:=l.take i) (l₂:=l.drop i)
 rwa [List.take_append_drop] at this
theorem perm_ldel {α:Type} {i:Nat} {c:α} {l:List α} (h:l[i]? = some c):l.Perm (c::ldel i l):=by
 have h1:=perm_lins i c (ldel i l)
 rwa [lins_ldel h] at h1
theorem perm_lset {α:Type} {i:Nat} {c:α} {l:List α} (d:α) (h:l[i]? = some c):(l.set i d).Perm (d::ldel i l):=by
 obtain⟨hi,_⟩:=List.getElem?_eq_some_iff.1 h
 have e:l.set i d=lins i d (ldel i l):=by
  have h2:=lins_ldel (i:=i) (c:=d) (l:=l.set i d) (by rw[List.getElem?_set_self hi])
  rw[← h2]
  congr 1
  unfold ldel
  rw[List.take_set_of_le (by omega),List.drop_set_of_lt (by omega)]
 rw[e]
 exact perm_lins i d _
def Skey {α:Type} (es:List (Lit×DataW α)):Prop:=es.Pairwise (fun p q=>p.1.before q.1=true) ∧ ∀p∈es,∃s,p.1 = .string s
theorem sameKey_str {s t:By}:(Lit.string s).sameKey (.string t)=true↔s=t:=by
 constructor
 ·intro h
  have:=WideAt.sameKey_eq h
  injection this
 ·rintro rfl
  exact WideAt.sameKey_self trivial
theorem filter_self {α:Type} {k:By} {es:List (Lit×DataW α)} (h:∀p∈es,p.1 ≠ .string k):es.filter (fun p=>!p.1.sameKey (.string k))=es:=by
 apply List.filter_eq_self.2
 intro p hp
 rw[sameKey_ne (h p hp)];rfl
theorem mput_back {α:Type} {k:By} {c:DataW α}:∀ {es:List (Lit×DataW α)},Skey es→(Lit.string k,c)∈es→mput (.string k) c es=es
 | [],_,h=>by cases h
 | y::r,⟨h1,h2⟩,h=>by
  obtain⟨h3,h4⟩:=List.pairwise_cons.1 h1
  obtain⟨t,ht⟩:=h2 y (by simp)
  unfold mput
  rcases List.mem_cons.1 h with e|h
  ·subst e
   have hne:∀p∈r,p.1 ≠ .string k:=fun p hp e=>by
    have:=h3 p hp
    rw[show p.1=Lit.string k from e] at this
    have h9:bytesBefore k k=true:=this
    rw[WideAt.bytes_irrefl] at h9;cases h9
   rw[List.filter_cons,if_neg (by rw[WideAt.sameKey_self (show WideAt.IsKeyLit (Lit.string k,c).1 from trivial)];decide),filter_self hne]
   cases r with
   | nil=>rfl
   | cons z r=>rw[DataW.insert,if_pos (h3 z (by simp))]
  ·have hb:=h3 _ h
   have hne:y.1 ≠ .string k:=fun e=>by
    rw[e] at hb
    have h9:bytesBefore k k=true:=hb
    rw[WideAt.bytes_irrefl] at h9;cases h9
   rw[List.filter_cons,if_pos (by rw[sameKey_ne hne];rfl)]
   have hnb:Lit.before (.string k) y.1=false:=by
    cases hx:Lit.before (.string k) y.1 with
    | false=>rfl
    | true =>
     rw[ht] at hb hx
     have h9:=Go.WideShapes.bytes_trans _ _ _ (show bytesBefore k t=true from hx) (show bytesBefore t k=true from hb)
     rw[WideAt.bytes_irrefl] at h9;cases h9
   rw[DataW.insert,if_neg (by rw[hnb];decide)]
   have ih:=mput_back ⟨h4,fun p hp=>h2 p (by simp[hp])⟩ h
   unfold mput at ih
   rw[ih]
theorem mdel_mput {α:Type} {k:By} (c:DataW α) (es:List (Lit×DataW α)):mdel (.string k) (mput (.string k) c es)=mdel (.string k) es:=by
 unfold mput
 have h:∀l:List (Lit×DataW α),(DataW.insert (.string k,c) l).filter (fun p=>!p.1.sameKey (.string k))=l.filter (fun p=>!p.1.sameKey (.string k)):=by
  intro l
  induction l with
  | nil=>simp[DataW.insert,WideAt.sameKey_self (show WideAt.IsKeyLit (Lit.string k) from trivial)]
  | cons y r ih =>
   rw[DataW.insert]
   split
   ·rw[List.filter_cons,if_neg (by rw[WideAt.sameKey_self (show WideAt.IsKeyLit (Lit.string k,c).1 from trivial)];decide)]
   ·rw[List.filter_cons,List.filter_cons,ih]
 unfold mdel
 rw[h,List.filter_filter]
 simp
theorem mdel_none {α:Type} {k:By} {es:List (Lit×DataW α)} (h:∀p∈es,p.1 ≠ .string k):mdel (.string k) es=es:=filter_self h
theorem mput_mdel {α:Type} {k:By} (c:DataW α) (es:List (Lit×DataW α)):mput (.string k) c (mdel (.string k) es)=mput (.string k) c es:=by
 unfold mput mdel
 rw[List.filter_filter];simp
theorem mput_mput {α:Type} {k:By} (c d:DataW α) (es:List (Lit×DataW α)):mput (.string k) c (mput (.string k) d es)=mput (.string k) c es:=by
 rw[← mput_mdel c (mput (.string k) d es),mdel_mput,mput_mdel]
theorem map_filterK {α β:Type} (q:DataW α→DataW β) (k:Lit) (es:List (Lit×DataW α)):(mdel k es).map (fun p=>(p.1,q p.2))=mdel k (es.map fun p=>(p.1,q p.2)):=by
 unfold mdel
 rw[List.filter_map];rfl
theorem map_insertK {α β:Type} (q:DataW α→DataW β) (x:Lit×DataW α) (l:List (Lit×DataW α)):(DataW.insert x l).map (fun p=>(p.1,q p.2))=DataW.insert (x.1,q x.2) (l.map fun p=>(p.1,q p.2)):=by
 induction l with
 | nil=>rfl
 | cons y r ih =>
  simp only[DataW.insert,List.map_cons]
  split
  ·rfl
  ·rw[List.map_cons,ih]
theorem map_mput {α β:Type} (q:DataW α→DataW β) (k:Lit) (c:DataW α) (es:List (Lit×DataW α)):(mput k c es).map (fun p=>(p.1,q p.2))=mput k (q c) (es.map fun p=>(p.1,q p.2)):=by
 unfold mput
 rw[map_insertK]
 have:=map_filterK q k es
 unfold mdel at this
 rw[this]
theorem mput_skey {k:By} {c:V} {es:List (Lit×V)} (h:Skey es):Skey (mput (.string k) c es):=by
 unfold mput
 have hs:∀p∈es.filter (fun p=>!p.1.sameKey (.string k)),∃s,p.1 = .string s:=fun p hp=>h.2 p (List.mem_filter.1 hp).1
 refine⟨insert_rising ⟨k,rfl⟩ hs (fun p hp e=>?_) (h.1.filter _),fun p hp=>?_⟩
 ·have:=(List.mem_filter.1 hp).2
  rw[show p.1=Lit.string k from e,WideAt.sameKey_self (show WideAt.IsKeyLit (Lit.string k) from trivial)] at this
  cases this
 ·rcases List.mem_cons.1 ((Go.WideShapes.insert_perm _ _).mem_iff.1 hp) with rfl|hp
  ·exact⟨k,rfl⟩
  ·exact hs p hp
theorem mdel_skey {α:Type} {k:Lit} {es:List (Lit×DataW α)} (h:Skey es):Skey (mdel k es):=⟨h.1.filter _,fun p hp=>h.2 p (List.mem_filter.1 hp).1⟩
theorem perm_mput {α:Type} (k:Lit) (c:DataW α) (es:List (Lit×DataW α)):(mput k c es).Perm ((k,c)::mdel k es):=Go.WideShapes.insert_perm _ _
theorem perm_mdel {α:Type} {k:By} {c:DataW α} {es:List (Lit×DataW α)} (hs:Skey es) (h:(Lit.string k,c)∈es):es.Perm ((.string k,c)::mdel (.string k) es):=by
 have:=perm_mput (.string k) c es
 rwa [mput_back hs h] at this
def ed (F:List A→List A) (G:List (Lit×A)→List (Lit×A)) (a:A):A:=match a with
 | .agg [.lit (.int k b),.lit (.int l g),x]=>(match x with
  | .slice al y=>.agg [.lit (.int k b),.lit (.int l g),.slice (F al) y]
  | .map es=>.agg [.lit (.int k b),.lit (.int l g),.map (G es)]
  | z=>.agg [.lit (.int k b),.lit (.int l g),z])
 | y=>y
def insT (i:Nat) (k:By) (c:A):A→A:=ed (lins i c) (mput (.string k) c)
def remT (i:Nat) (k:By):A→A:=ed (ldel i) (mdel (.string k))
def setT (i:Nat) (k:By) (c:A):A→A:=ed (fun al=>al.set i c) (mput (.string k) c)
theorem ed_arr (F:List A→List A) (G:List (Lit×A)→List (Lit×A)) (b g:Nat) (al:List A):ed F G (nd b g (.slice al []))=nd b g (.slice (F al) []):=rfl
theorem ed_obj (F:List A→List A) (G:List (Lit×A)→List (Lit×A)) (b g:Nat) (es:List (Lit×A)):ed F G (nd b g (.map es))=nd b g (.map (G es)):=rfl
theorem er_ed {f:Nat} {F F':List A→List A} {G G':List (Lit×A)→List (Lit×A)} (hF:∀al,(F al).map (er f)=F' (al.map (er f))) (hG:∀es,(G es).map (fun p=>(p.1,er f p.2))=G' (es.map fun p=>(p.1,er f p.2))) {a:A}
  (h:(∃b g al,a=nd b g (.slice al [])) ∨ ∃b g es,a=nd b g (.map es)):er (f+1) (ed F G a)=ed F' G' (er (f+1) a):=by
 rcases h with⟨b,g,al,rfl⟩|⟨b,g,es,rfl⟩
 ·rw[ed_arr,er_arr,er_arr,ed_arr,hF]
 ·rw[ed_obj,er_obj,er_obj,ed_obj,hG]
def Box (a:A):Prop:=(∃b g al,a=nd b g (.slice al [])) ∨ ∃b g es,a=nd b g (.map es)
theorem er_ins {f i:Nat} {k:By} {c a:A} (h:Box a):er (f+1) (insT i k c a)=insT i k (er f c) (er (f+1) a):=er_ed (fun _=>map_lins _ _ _ _) (fun _=>map_mput _ _ _ _) h
theorem er_rem {f i:Nat} {k:By} {a:A} (h:Box a):er (f+1) (remT i k a)=remT i k (er (f+1) a):=er_ed (fun _=>map_ldel _ _ _) (fun _=>map_filterK _ _ _) h
theorem er_set {f i:Nat} {k:By} {c a:A} (h:Box a):er (f+1) (setT i k c a)=setT i k (er f c) (er (f+1) a):=er_ed (fun _=>List.map_set) (fun _=>map_mput _ _ _ _) h
end Sp
end

section
set_option maxHeartbeats 1000000
open Go.RowKit
def Sp.inB (n a b:Int):Bool:=decide (a≤n) && decide (n≤b)
def Sp.cfg (d e n:Int):Bool:=Sp.inB d 1 20 && (Sp.inB e 0 400 && Sp.inB n 0 2000)
def Sp.ldd (r:Nat×Option Sp.V) (doc:Sp.Doc):Sp.Ans×Sp.Doc :=
 match r.2 with
 | some v=>((r.1,0,[]),some (v,none))
 | none=>((r.1,0,[]),doc)
def Sp.gotA (v:Sp.V) (s:Sp.By):Sp.Ans:=match Sp.toks s with
 | none=>(9,0,[])
 | some l=>match Sp.find v l with
  | .ok e=>(0,0,Sp.can top e)
  | .error c=>(c,0,[])
noncomputable def Sp.tst (d e:Int) (v:Sp.V) (s t:Sp.By):Nat:=match Sp.toks s with
 | none=>9
 | some l=>match Sp.readTo t d e with
  | (c,none)=>c
  | (_,some x)=>match Sp.find v l with
   | .error c=>c
   | .ok y=>if veq y x=true then 0 else 14
noncomputable def Sp.ask (d e:Int) (v:Sp.V) (o:Sp.St):Sp.Ans :=
 if o.1=2 then (0,0,Sp.can top v) else if o.1=3 then Sp.gotA v o.2.1 else if o.1=4 then (Sp.tst d e v o.2.1 o.2.2,0,[]) else (1,0,[])
noncomputable def Sp.step (d e n:Int) (doc:Sp.Doc) (o:Sp.St):Sp.Ans×Sp.Doc :=
 if Sp.cfg d e n then
  (if o.1<1∨9<o.1 then ((1,0,[]),doc)
   else if o.1=1 then Sp.ldd (Sp.readTo o.2.1 d e) doc
   else match doc with
    | none=>((3,0,[]),doc)
    | some v=>if o.1<5 then (Sp.ask d e v.1 o,doc) else ((Sp.amend d e n v o).1,some (Sp.amend d e n v o).2))
 else ((2,0,[]),doc)
noncomputable def Sp.run (d e n:Int):Sp.Doc→List Sp.St→List Sp.Ans
 | _,[]=>[]
 | doc,o::r=>(Sp.step d e n doc o).1::Sp.run d e n (Sp.step d e n doc o).2 r
noncomputable def Sp.docAfter (d e n:Int):Sp.Doc→List Sp.St→Sp.Doc
 | doc,[]=>doc
 | doc,o::r=>Sp.docAfter d e n (Sp.step d e n doc o).2 r
theorem Sp.run_len (d e n:Int):∀ (l:List Sp.St) (doc:Sp.Doc),(Sp.run d e n doc l).length=l.length:=by
 intro l
 induction l with
 | nil=>intro doc;rfl
 | cons o r ih=>intro doc;simp[Sp.run,ih]
theorem Sp.run_snoc (d e n:Int):∀ (l:List Sp.St) (doc:Sp.Doc) (o:Sp.St),Sp.run d e n doc (l++[o])=Sp.run d e n doc l++[(Sp.step d e n (Sp.docAfter d e n doc l) o).1]:=by
 intro l
 induction l with
 | nil=>intro doc o;rfl
 | cons x r ih=>intro doc o;simp[Sp.run,Sp.docAfter,ih]
theorem Sp.after_snoc (d e n:Int):∀ (l:List Sp.St) (doc:Sp.Doc) (o:Sp.St),Sp.docAfter d e n doc (l++[o])=(Sp.step d e n (Sp.docAfter d e n doc l) o).2:=by
 intro l
 induction l with
 | nil=>intro doc o;rfl
 | cons x r ih=>intro doc o;simp[Sp.docAfter,ih]
def ansA (a:Sp.Ans):Value:=.agg #[.int .i64 a.1,.int .i64 a.2.1,.string ⟨a.2.2.toArray⟩]
def ansV (c:Nat) (t:Sp.By):Value:=.agg #[.int .i64 c,.int .i64 0,.string ⟨t.toArray⟩]
theorem within_any (n a b:Int) (w:World):Calls Tryz.prog 52 #[.int .i64 n,.int .i64 a,.int .i64 b] w fun e w'=>e = .returned (.bool (Sp.inB n a b))∧w'=w:=by
 by_cases h1:a≤n
 ·by_cases h2:n≤b
  ·have e1:decide (a≤n)=true:=by simpa using h1
   have e2:decide (n≤b)=true:=by simpa using h2
   have HE:=hide (show Sp.inB n a b=true by unfold Sp.inB;rw[e1,e2];rfl)
   clear h1 h2
   go_enter Tryz.func52,Tryz.ntmps52
   go_wp2_with (fail)
   go_ret
   exact⟨by rw[unhide HE];rfl,rfl⟩
  ·have e1:decide (a≤n)=true:=by simpa using h1
   have e2:decide (n≤b)=false:=by simpa using h2
   have HE:=hide (show Sp.inB n a b=false by unfold Sp.inB;rw[e1,e2];rfl)
   clear h1 h2
   go_enter Tryz.func52,Tryz.ntmps52
   go_wp2_with (fail)
   go_ret
   exact⟨by rw[unhide HE];rfl,rfl⟩
 ·have e1:decide (a≤n)=false:=by simpa using h1
  have HE:=hide (show Sp.inB n a b=false by unfold Sp.inB;rw[e1];rfl)
  clear h1
  go_enter Tryz.func52,Tryz.ntmps52
  go_wp2_with (fail)
  go_ret
  exact⟨by rw[unhide HE];rfl,rfl⟩
theorem isConfig_any (d e n:Int) (w:World):Calls Tryz.prog 40 #[.agg #[.int .i64 d,.int .i64 e,.int .i64 n]] w fun x w'=>x = .returned (.bool (Sp.cfg d e n))∧Below w.heap.size w w':=by
 have hb:Below w.heap.size w (w.alloc (.cells #[.int .i64 d,.int .i64 e,.int .i64 n] 23)):=(Below.refl _ _).alloc (Nat.le_refl _) _
 go_enter Tryz.func40,Tryz.ntmps40
 go_wp2_with (fail)
 refine (within_any d 1 20 _).mono ?_
 rintro x w1 ⟨rfl,rfl⟩
 cases h1:Sp.inB d 1 20 with
 | false =>
  have H1:=hide h1
  clear h1
  simp only
  go_wp2_with (fail)
  go_ret
  exact⟨by unfold Sp.cfg;rw[unhide H1];rfl,hb⟩
 | true =>
  have H1:=hide h1
  clear h1
  simp only
  go_wp2_with (fail)
  refine (within_any e 0 400 _).mono ?_
  rintro x w1 ⟨rfl,rfl⟩
  cases h2:Sp.inB e 0 400 with
  | false =>
   have H2:=hide h2
   clear h2
   simp only
   go_wp2_with (fail)
   go_ret
   exact⟨by unfold Sp.cfg;rw[unhide H1,unhide H2];rfl,hb⟩
  | true =>
   have H2:=hide h2
   clear h2
   simp only
   go_wp2_with (fail)
   refine (within_any n 0 2000 _).mono ?_
   rintro x w1 ⟨rfl,rfl⟩
   go_wp2_with (fail)
   go_ret
   exact⟨by unfold Sp.cfg;rw[unhide H1,unhide H2];simp,hb⟩
theorem failed_any (c:Nat) (w:World):Calls Tryz.prog 41 #[.int .i64 c] w fun x w'=>x = .returned (ansV c [])∧Below w.heap.size w w':=by
 unfold ansV
 go_enter Tryz.func41,Tryz.ntmps41
 go_wp2_with (fail)
 refine bodyPost_ret (v:=.agg #[.int .i64 c,.int .i64 0,.string ⟨([]:Sp.By).toArray⟩]) (by simp[results,Tryz.results41,go_sem]) rfl ⟨rfl,?_⟩
 exact (Below.refl _ w).alloc (Nat.le_refl _) _
end

section
set_option maxHeartbeats 2000000
open Go.RowKit
def SB (w:World) (S:Nat) (d e n:Int) (p:Value):Prop:=w.heap[S]? = some (.cells #[.int .i64 d,.int .i64 e,.int .i64 n,p] 62 (0,0))
section
variable {w:World} {S:Nat} {d e n:Int} {p:Value}
theorem SB.lt (h:SB w S d e n p):S<w.heap.size:=(Array.getElem?_eq_some_iff.1 h).1
theorem SB.c0 (h:SB w S d e n p):w.cell? ⟨S,0,none⟩=some (.int .i64 d):=by simp[World.cell?,show w.heap[S]? = _ from h]
theorem SB.c1 (h:SB w S d e n p):w.cell? ⟨S,1,none⟩=some (.int .i64 e):=by simp[World.cell?,show w.heap[S]? = _ from h]
theorem SB.c2 (h:SB w S d e n p):w.cell? ⟨S,2,none⟩=some (.int .i64 n):=by simp[World.cell?,show w.heap[S]? = _ from h]
theorem SB.c3 (h:SB w S d e n p):w.cell? ⟨S,3,none⟩=some p:=by simp[World.cell?,show w.heap[S]? = _ from h]
theorem SB.fz (h:SB w S d e n p) (o:Nat):w.frozen? ⟨S,o,none⟩=false:=by simp[World.frozen?,show w.heap[S]? = _ from h]
theorem SB.low {w':World} (h:SB w S d e n p) (hb:Below w.heap.size w w'):SB w' S d e n p:=(hb.block S h.lt).trans h
theorem SB.set3 (h:SB w S d e n p) (q:Value):SB (w.setCell ⟨S,3,none⟩ q) S d e n q:=by
 simp only[SB,World.setCell,Array.getElem?_modify]
 rw[if_pos trivial,show w.heap[S]? = _ from h];rfl
end
def DB (w:World) (D:Nat) (rp jn:Value) (ch:Bool) (iv:Value):Prop:=w.heap[D]? = some (.cells #[rp,jn,.bool ch,iv] 115 (0,0))
section
variable {w:World} {D:Nat} {rp jn iv:Value} {ch:Bool}
theorem DB.lt (h:DB w D rp jn ch iv):D<w.heap.size:=(Array.getElem?_eq_some_iff.1 h).1
theorem DB.c0 (h:DB w D rp jn ch iv):w.cell? ⟨D,0,none⟩=some rp:=by simp[World.cell?,show w.heap[D]? = _ from h]
theorem DB.c1 (h:DB w D rp jn ch iv):w.cell? ⟨D,1,none⟩=some jn:=by simp[World.cell?,show w.heap[D]? = _ from h]
theorem DB.c2 (h:DB w D rp jn ch iv):w.cell? ⟨D,2,none⟩=some (.bool ch):=by simp[World.cell?,show w.heap[D]? = _ from h]
theorem DB.c3 (h:DB w D rp jn ch iv):w.cell? ⟨D,3,none⟩=some iv:=by simp[World.cell?,show w.heap[D]? = _ from h]
theorem DB.kept (h:DB w D rp jn ch iv) {w':World} (hk:w'.heap[D]? = w.heap[D]?):DB w' D rp jn ch iv:=hk.trans h
end
def OneP (w:World) (g:Nat) (wp:Value):Prop:=w.heap[g]? = some (.cells #[wp] 80 (0,0))
theorem ownsN_kept {w w':World} {B e n q:Nat} {v:Value} {xs:List Value} (h:w.ownsRow B e q v n xs) (hk:∀g,v.ownBlock=some g→w'.heap[g]? = w.heap[g]?):w'.ownsRow B e q v n xs:=by
 refine⟨h.1,h.2.imp id ?_⟩
 rintro⟨g,cap,cur,h1,h2,h3,h4⟩
 exact⟨g,cap,cur,h1,h2,(hk g (by rw[h1];rfl)).trans h3,h4⟩
theorem ownsN_lt {w:World} {B e n q:Nat} {v:Value} {xs:List Value} (h:w.ownsRow B e q v n xs) (g:Nat) (hg:v.ownBlock=some g):g<w.heap.size∧B≤g:=by
 rcases h.2 with⟨h1,_⟩|⟨g',cap,cur,h1,h2,h3,_⟩
 ·rw[h1] at hg;cases hg
 ·rw[h1] at hg;injection hg with hg;subst hg;exact⟨(Array.getElem?_eq_some_iff.1 h3).1,h2⟩
def TokG (w:World) (G:Nat→Prop) (v:Value) (l:List Sp.By):Prop :=
 (l=[] ∧ ∃a c,v = .slice a 0 c∧c≤maxLen) ∨ ∃g o cap,v = .slice (some ⟨g,o,none⟩) l.length cap∧l.length≤cap∧cap≤maxLen∧G g∧TokAt w g o l
theorem TokG.toks {w:World} {G:Nat→Prop} {v:Value} {l:List Sp.By} (h:TokG w G v l):Toks w v l:=by
 rcases h with h|⟨g,o,cap,h1,h2,h3,_,h4⟩
 ·exact Or.inl h
 ·exact Or.inr ⟨g,o,cap,h1,h2,h3,h4⟩
theorem TokAt.move {w w':World} {g o:Nat} {l:List Sp.By} (h:TokAt w g o l) (hk:w'.heap[g]? = w.heap[g]?):TokAt w' g o l:=by
 refine⟨?_,fun k hkl=>(World.cell?_of_block (a:=⟨g,o+k,none⟩) hk).trans (h.2 k hkl)⟩
 have h1:w.heap[g]? = some (w.heap[g]'h.1):=Array.getElem?_eq_getElem h.1
 rw[h1] at hk
 exact (Array.getElem?_eq_some_iff.1 hk).1
theorem TokG.move {w w':World} {G G':Nat→Prop} {v:Value} {l:List Sp.By} (h:TokG w G v l) (hk:∀k,G k→k<w.heap.size→w'.heap[k]? = w.heap[k]? ∧ G' k):TokG w' G' v l:=by
 rcases h with h|⟨g,o,cap,h1,h2,h3,hg,h4⟩
 ·exact Or.inl h
 ·have:=hk g hg h4.1
  exact Or.inr ⟨g,o,cap,h1,h2,h3,this.2,h4.move this.1⟩
def OpnR (w:World) (G:Nat→Prop) (kv pv fv vv:Value) (o:Sp.Opn):Prop :=
 kv = .int .i64 o.1∧o.1<3∧TokG w G pv o.2.1∧fv = .slice none 0 0∧((o.1=1∧vv = .pointer none)∨(o.1≠1∧Rep top G w vv o.2.2))
theorem OpnR.move {w w':World} {G G':Nat→Prop} {kv pv fv vv:Value} {o:Sp.Opn} (h:OpnR w G kv pv fv vv o) (hk:∀k,G k→k<w.heap.size→w'.heap[k]? = w.heap[k]? ∧ G' k):OpnR w' G' kv pv fv vv o :=
 ⟨h.1,h.2.1,h.2.2.1.move hk,h.2.2.2.1,h.2.2.2.2.imp id fun ⟨a,b⟩=>⟨a,b.move hk⟩⟩
def Opns (w:World) (G:Nat→Prop):List Value→List Sp.Opn→Prop
 | [],[]=>True
 | kv::pv::fv::vv::r,o::s=>OpnR w G kv pv fv vv o∧Opns w G r s
 | _,_=>False
theorem Opns.move {w w':World} {G G':Nat→Prop} (hk:∀k,G k→k<w.heap.size→w'.heap[k]? = w.heap[k]? ∧ G' k):∀ {xs:List Value} {j:List Sp.Opn},Opns w G xs j→Opns w' G' xs j
 | [],[],_=>trivial
 | _::_::_::_::_,_::_,⟨a,b⟩=>⟨a.move hk,Opns.move hk b⟩
def OpsR (w:World) (G:Nat→Prop) (iv:Value) (j:List Sp.Opn):Prop:=∃xs,w.ownsRow 0 178 4 iv j.length xs∧(∀g,iv.ownBlock=some g→G g)∧Opns w G xs j
theorem OpsR.move {w w':World} {G G':Nat→Prop} {iv:Value} {j:List Sp.Opn} (h:OpsR w G iv j) (hk:∀k,G k→k<w.heap.size→w'.heap[k]? = w.heap[k]? ∧ G' k):OpsR w' G' iv j:=by
 obtain⟨xs,h1,h2,h3⟩:=h
 exact⟨xs,ownsN_kept h1 fun g hg=>(hk g (h2 g hg) (ownsN_lt h1 g hg).1).1,fun g hg=>(hk g (h2 g hg) (ownsN_lt h1 g hg).1).2,h3.move hk⟩
def Sp.IOk (o:Sp.Opn):Prop:=(o.2.1.map fun t=>t.length+1).sum≤1000000∧(o.1≠1 → ∃d x,Sp.gd d x top 1 o.2.2∧d≤500)
def InvR (w:World) (G:Nat→Prop) (iv:Value):Sp.Inv→Prop
 | none=>iv = .slice none 0 0
 | some j=>OpsR w G iv j∧(Sp.ptext j).length≤8796093022208 ∧ ∀o∈j,Sp.IOk o
theorem InvR.move {w w':World} {G G':Nat→Prop} {iv:Value} {j:Sp.Inv} (h:InvR w G iv j) (hk:∀k,G k→k<w.heap.size→w'.heap[k]? = w.heap[k]? ∧ G' k):InvR w' G' iv j:=by
 cases j with
 | none=>exact h
 | some j=>exact⟨h.1.move hk,h.2⟩
structure DocT (w:World) (D R:Nat) (wp jn iv:Value) (ch:Bool) (T a:Sp.A) (x:Sp.V):Prop where
 db:DB w D (.pointer (some ⟨R,0,none⟩)) jn ch iv
 tr:TRep (top+1) w (.pointer (some ⟨R,0,none⟩)) T
 one:∃g,T=Sp.nd R g (.slice [a] [])
 sub:TRep top w wp a
 str:Sp.str top a=x
 nd:(Sp.fp (top+1) T).Nodup
 nD:D ∉ Sp.fp (top+1) T
theorem DocT.move {w w':World} {D R:Nat} {wp jn iv:Value} {ch:Bool} {T a:Sp.A} {x:Sp.V} (h:DocT w D R wp jn iv ch T a x) (hD:w'.heap[D]? = w.heap[D]?) (hk:∀k∈Sp.fp (top+1) T,w'.heap[k]? = w.heap[k]?):DocT w' D R wp jn iv ch T a x:=by
 obtain⟨g,e⟩:=h.one
 refine⟨h.db.kept hD,h.tr.move hk,h.one,h.sub.move fun k hka=>hk k ?_,h.str,h.nd,h.nD⟩
 rw[e,Sp.fp_arr]
 exact List.mem_cons_of_mem _ (List.mem_append_right _ (by simpa using hka))
theorem DocT.row {w:World} {D R:Nat} {wp jn iv:Value} {ch:Bool} {T a:Sp.A} {x:Sp.V} (h:DocT w D R wp jn iv ch T a x):∃sl,VB w R 5 n0 [] sl (.map none)∧w.ownsRow 0 80 1 sl 1 [wp]:=by
 obtain⟨g,e⟩:=h.one
 have ht:=h.tr
 rw[e] at ht
 obtain⟨b2,g2,x2,e2,hv,ht⟩:=ht
 unfold Sp.nd at e2;injection e2 with e2;injection e2 with e3 e2;injection e2 with e4 e2;injection e2 with e5 _
 injection e3 with e3;injection e3 with _ e3
 rcases ht with⟨j,_,_,rfl,_⟩|⟨n,_,rfl,_⟩|⟨s,_,rfl,_⟩|⟨al,sl,ps,rfl,hvb,ho,hs,ha⟩|⟨es,n,D,rfl,_⟩
 ·cases e5
 ·cases e5
 ·cases e5
 ·injection e5 with e5 _
  subst e5
  obtain rfl:R=b2:=by omega
  cases ps with
  | nil=>exact ha.elim
  | cons u r =>
   obtain⟨hu,ha⟩:=ha
   cases r with
   | nil =>
    obtain rfl:=hu.uniq h.sub
    exact⟨sl,hvb,ho⟩
   | cons _ _=>exact ha.elim
 ·cases e5
structure DocW (w:World) (F:Nat→Prop) (D R:Nat) (wp:Value) (d e:Int) (v:Sp.V×Sp.Inv):Prop where
 ex:∃T a iv,DocT w D R wp (.slice none 0 0) iv v.2.isSome T a v.1∧(∀k∈Sp.fp (top+1) T,F k)∧InvR w (fun k=>F k∧k≠D∧k ∉ Sp.fp (top+1) T) iv v.2
 fD:F D
 len:(Sp.can top v.1).length≤80000
 gd:Sp.gd d e top 1 v.1
theorem DocW.move {w w':World} {F F':Nat→Prop} {D R:Nat} {wp:Value} {d e:Int} {v:Sp.V×Sp.Inv} (h:DocW w F D R wp d e v) (hF:∀k,F k→k<w.heap.size→w'.heap[k]? = w.heap[k]? ∧ F' k):DocW w' F' D R wp d e v:=by
 obtain⟨T,a,iv,h1,h2,h3⟩:=h.ex
 have hlt:=h1.tr.lt
 refine⟨⟨T,a,iv,h1.move (hF D h.fD h1.db.lt).1 fun k hk=>(hF k (h2 k hk) (hlt k hk)).1,fun k hk=>(hF k (h2 k hk) (hlt k hk)).2,h3.move fun k hk hkl=>?_⟩,(hF D h.fD h1.db.lt).2,h.len,h.gd⟩
 obtain⟨g1,g2,g3⟩:=hk
 exact⟨(hF k g1 hkl).1,(hF k g1 hkl).2,g2,g3⟩
theorem DocW.rep {w:World} {F:Nat→Prop} {D R:Nat} {wp:Value} {d e:Int} {v:Sp.V×Sp.Inv} (h:DocW w F D R wp d e v):Rep top F w wp v.1:=by
 obtain⟨T,a,iv,h1,h2,h3⟩:=h.ex
 obtain⟨g,eT⟩:=h1.one
 rw[← h1.str]
 refine h1.sub.rep fun k hk=>h2 k ?_
 rw[eT,Sp.fp_arr]
 exact List.mem_cons_of_mem _ (List.mem_append_right _ (by simpa using hk))
def DocF (w:World) (F:Nat→Prop) (p:Value) (d e:Int):Sp.Doc→Prop
 | none=>p = .pointer none
 | some v=>∃D R wp,p = .pointer (some ⟨D,0,none⟩)∧DocW w F D R wp d e v
theorem DocF.move {w w':World} {F F':Nat→Prop} {p:Value} {d e:Int} {doc:Sp.Doc} (h:DocF w F p d e doc) (hF:∀k,F k→k<w.heap.size→w'.heap[k]? = w.heap[k]? ∧ F' k):DocF w' F' p d e doc:=by
 cases doc with
 | none=>exact h
 | some v =>
  obtain⟨D,R,wp,hp,h⟩:=h
  exact⟨D,R,wp,hp,h.move hF⟩
theorem Laid.drew {w:World} (h:Laid w):Laid w.drew:=⟨h.ng,h.esc,h.words,h.utf8,h.pow,h.pesc,h.rng,h.mx,h.otab⟩
def NewEnd (wp:Value) (w:World) (x:Ending) (w':World):Prop:=∃D R g,x = .returned (.pointer (some ⟨D,0,none⟩))∧Below w.heap.size w w'∧w.heap.size≤D∧w.heap.size≤R∧w.heap.size≤g∧D≠R∧D≠g∧R≠g ∧
 DB w' D (.pointer (some ⟨R,0,none⟩)) (.slice none 0 0) false (.slice none 0 0)∧VB w' R 5 n0 [] (.slice (some ⟨g,0,none⟩) 1 1) (.map none)∧OneP w' g wp
theorem New_any (p:Option Addr) (w:World):Calls Tryz.prog 54 #[.pointer p] w fun x w'=>NewEnd (.pointer p) w x w':=by
 go_enter Tryz.func54,Tryz.ntmps54
 go_wp2_with (fail)
 go_ret
 refine⟨w.heap.size+1+1,w.heap.size+1,w.heap.size,rfl,?_,by omega,by omega,by omega,by omega,by omega,by omega,?_,?_,?_⟩
 ·exact (((Below.refl _ w).alloc (Nat.le_refl _) _).alloc (by simp) _).alloc (by simp;omega) _
 ·show (((w.heap.push _).push _).push _)[w.heap.size+1+1]? = _
  simp only[Array.getElem?_push,Array.size_push]
  rw[if_pos trivial]
 ·show (((w.heap.push _).push _).push _)[w.heap.size+1]? = _
  simp only[Array.getElem?_push,Array.size_push]
  rw[if_neg (by omega),if_pos trivial]
 ·show (((w.heap.push _).push _).push _)[w.heap.size]? = _
  simp only[Array.getElem?_push,Array.size_push]
  rw[if_neg (by omega),if_neg (by omega),if_pos trivial]
theorem WholeT {w:World} {D R:Nat} {wp jn iv:Value} {ch:Bool} {T a:Sp.A} {x:Sp.V} (h:DocT w D R wp jn iv ch T a x):Calls Tryz.prog 56 #[.pointer (some ⟨D,0,none⟩)] w fun x w'=>x = .returned wp∧Below w.heap.size w w':=by
 obtain⟨sl,hvb,ho⟩:=h.row
 have c0:=h.db.c0
 have c5:=hvb.c5
 obtain⟨g,cap,rfl,a1,a2,a3,hc⟩:=owns_cell1 ho (Nat.zero_lt_one)
 have cg:w.cell? ⟨g,0,none⟩=some wp:=hc 0 Nat.zero_lt_one
 clear h ho hc
 go_enter Tryz.func56,Tryz.ntmps56
 go_wp2_with (fail)
 go_ret
 exact⟨rfl,Below.refl _ _⟩
theorem Whole_any {w:World} {F:Nat→Prop} {D R:Nat} {wp:Value} {d e:Int} {v:Sp.V×Sp.Inv} (h:DocW w F D R wp d e v):Calls Tryz.prog 56 #[.pointer (some ⟨D,0,none⟩)] w fun x w'=>x = .returned wp∧Below w.heap.size w w':=by
 obtain⟨T,a,iv,h1,_⟩:=h.ex
 exact WholeT h1
theorem Read_tr (s:Sp.By) (d e:Int) (w:World) (hT:Laid w) :
  Calls Tryz.prog 77 #[.string ⟨s.toArray⟩,.int .i64 d,.int .i64 e] w fun x w'=>∃ (p:Option Addr) (c:Nat),x = .returned (.tuple #[.pointer p,.int .i64 c])∧Below w.heap.size w w' ∧
   ((0<c∧Sp.readTo s d e=(c,none))∨(c=0 ∧ ∃v,Sp.readTo s d e=(0,some v)∧Tr top w.heap.size w' (.pointer p) v)):=by
 refine (Read_any ⟨s.toArray⟩ d e w hT).mono ?_
 rintro x w' ⟨hb,hc⟩
 rcases hc with⟨c,h1,h2,rfl⟩|⟨v,p,h1,rfl,h2⟩
 ·exact⟨none,c,rfl,hb,Or.inl ⟨h2,h1⟩⟩
 ·exact⟨some p,0,rfl,hb,Or.inr ⟨rfl,v,h1,h2⟩⟩
theorem sread_tr {S:Nat} {d e n:Int} {p:Value} {w:World} (s:Sp.By) (h:SB w S d e n p) (hT:Laid w) :
  Calls Tryz.prog 53 #[.pointer (some ⟨S,0,none⟩),.string ⟨s.toArray⟩] w fun x w'=>∃ (p:Option Addr) (c:Nat),x = .returned (.tuple #[.pointer p,.int .i64 c])∧Below w.heap.size w w' ∧
   ((0<c∧Sp.readTo s d e=(c,none))∨(c=0 ∧ ∃v,Sp.readTo s d e=(0,some v)∧Tr top w.heap.size w' (.pointer p) v)):=by
 have c0:=h.c0
 have c1:=h.c1
 have HR:=hide (fun (w0:World) (hT:Laid w0)=>Read_tr s d e w0 hT)
 have HT:=hide hT
 clear hT h
 go_enter Tryz.func53,Tryz.ntmps53
 go_wp2_with (fail)
 go_region_with (go_at_call 77;refine (unhide HR _ ?_).mono ?_;exact (unhide HT).drew;rintro x w2 ⟨p2,c,rfl,hb2,hc⟩)
 all_goals (
  replace hb2:Below w.heap.size w w2:=⟨hb2.os,hb2.tape,hb2.output,hb2.size,hb2.block⟩
  replace hc:(0<c∧Sp.readTo s d e=(c,none))∨(c=0 ∧ ∃v,Sp.readTo s d e=(0,some v)∧Tr top w.heap.size w2 (.pointer p2) v):=hc
  have HB:=hide hb2
  have HC:=hide hc
  clear hb2 hc
  go_wp2_with (fail)
  go_ret2
  exact⟨p2,c,rfl,unhide HB,unhide HC⟩)
def AB (w:World) (g:Nat):Prop:=w.heap[g]? = some (.cells #[.int .i64 0,.int .i64 0,.string ⟨#[]⟩] 46 (0,0))
section
variable {w:World} {g:Nat}
theorem AB.lt (h:AB w g):g<w.heap.size:=(Array.getElem?_eq_some_iff.1 h).1
theorem AB.c0 (h:AB w g):w.cell? ⟨g,0,none⟩=some (.int .i64 0):=by simp[World.cell?,show w.heap[g]? = _ from h]
theorem AB.c1 (h:AB w g):w.cell? ⟨g,1,none⟩=some (.int .i64 0):=by simp[World.cell?,show w.heap[g]? = _ from h]
theorem AB.c2 (h:AB w g):w.cell? ⟨g,2,none⟩=some (.string ⟨#[]⟩):=by simp[World.cell?,show w.heap[g]? = _ from h]
theorem AB.fz (h:AB w g) (o:Nat):w.frozen? ⟨g,o,none⟩=false:=by simp[World.frozen?,show w.heap[g]? = _ from h]
theorem AB.low {w':World} (h:AB w g) (hb:Below w.heap.size w w'):AB w' g:=(hb.block g h.lt).trans h
theorem AB.new (w:World):AB (w.alloc (.cells #[.int .i64 0,.int .i64 0,.string ⟨#[]⟩] 46)) w.heap.size:=by
 show (w.heap.push _)[w.heap.size]? = _
 simp
end
theorem below_set {B:Nat} {w w':World} (h:Below B w w') (b o:Nat) (hb:B≤b) (u:Value):Below B w (w'.setCell ⟨b,o,none⟩ u):=h.setCell (by exact hb) u
theorem doc_new {w0 w3:World} {lo D R g:Nat} {p2:Option Addr} {v:Sp.V} {d e:Int} {s:Sp.By} {F:Nat→Prop} (hng:0<lo) (hlo:lo≤w0.heap.size) (hrep:Tr top lo w0 (.pointer p2) v) (hb:Below w0.heap.size w0 w3) (hD:w0.heap.size≤D) (hR:w0.heap.size≤R) (hg:w0.heap.size≤g) (hDR:D≠R) (hDg:D≠g) (hRg:R≠g)
  (hF:∀k,lo≤k→k<w0.heap.size→F k) (fD:F D) (fR:F R) (fg:F g)
  (hdb:DB w3 D (.pointer (some ⟨R,0,none⟩)) (.slice none 0 0) false (.slice none 0 0)) (hrb:VB w3 R 5 n0 [] (.slice (some ⟨g,0,none⟩) 1 1) (.map none)) (hgb:OneP w3 g (.pointer p2)) (hrd:Sp.readTo s d e=(0,some v)) :
  DocW w3 F D R (.pointer p2) d e (v,none):=by
 obtain⟨a,h1,h2,h3,h4⟩:=hrep
 have h5:=h1.lt
 have h6:TRep top w3 (.pointer p2) a:=h1.move fun k hk=>hb.block k (h5 k hk)
 have ef:Sp.fp (top+1) (Sp.nd R g (.slice [a] []))=R::([g]++Sp.fp top a):=by
  rw[Sp.fp_arr,if_neg (by omega)];simp
 refine⟨⟨Sp.nd R g (.slice [a] []),a,.slice none 0 0,⟨hdb,?_,⟨g,rfl⟩,h6,h2,?_,?_⟩,?_,rfl⟩,fD,read_bd hrd top,read_gd hrd⟩
 ·refine⟨R,g,_,rfl,rfl,Or.inr (Or.inr (Or.inr (Or.inl ⟨[a],_,[.pointer p2],rfl,hrb,⟨rfl,Or.inr ⟨g,1,#[.pointer p2],rfl,Nat.zero_le _,hgb,Nat.le_refl _,by unfold maxLen;omega,rfl,rfl⟩⟩,?_,⟨h6,trivial⟩⟩)))⟩
  rw[if_neg (by omega)];rfl
 ·rw[ef]
  refine List.nodup_cons.2 ⟨fun hm=>?_,List.nodup_cons.2 ⟨fun hm=>?_,h3⟩⟩
  ·rcases List.mem_cons.1 hm with e|hm
   ·exact hRg e
   ·have:=h5 R hm;omega
  ·have:=h5 g hm;omega
 ·rw[ef]
  intro hm
  rcases List.mem_cons.1 hm with e|hm
  ·exact hDR e
  ·rcases List.mem_cons.1 hm with e|hm
   ·exact hDg e
   ·have:=h5 D hm;omega
 ·rw[ef]
  intro k hm
  rcases List.mem_cons.1 hm with rfl|hm
  ·exact fR
  ·rcases List.mem_cons.1 hm with rfl|hm
   ·exact fg
   ·exact hF k (h4 k hm) (h5 k hm)
structure KeptF (F:Nat→Prop) (w w':World):Prop where
 os:w'.os=w.os
 tape:w'.tape=w.tape
 output:w'.output=w.output
 size:w.heap.size≤w'.heap.size
 block:∀k,k<w.heap.size → ¬ F k→w'.heap[k]? = w.heap[k]?
theorem KeptF.of_below {F:Nat→Prop} {w w':World} (h:Below w.heap.size w w'):KeptF F w w':=⟨h.os,h.tape,h.output,h.size,fun k hk _=>h.block k hk⟩
theorem KeptF.trans {F F':Nat→Prop} {a b c:World} (h:KeptF F a b) (k:KeptF F' b c) (hF:∀k,k<a.heap.size→F' k→F k):KeptF F a c :=
 ⟨k.os.trans h.os,k.tape.trans h.tape,k.output.trans h.output,Nat.le_trans h.size k.size,fun i hi hx=>(k.block i (Nat.lt_of_lt_of_le hi h.size) fun h'=>hx (hF i hi h')).trans (h.block i hi hx)⟩
theorem KeptF.setCell {F:Nat→Prop} {a w:World} (h:KeptF F a w) {p:Addr} (hp:F p.block∨a.heap.size≤p.block) (u:Value):KeptF F a (w.setCell p u) :=
 ⟨h.os,h.tape,h.output,by simpa[World.setCell] using h.size,fun k hk hx=>by
  have hne:k≠p.block:=by
   rcases hp with hp|hp
   ·rintro rfl;exact hx hp
   ·omega
  exact (Below.heap_setCell _ _ _ _ hne).trans (h.block k hk hx)⟩
theorem KeptF.below {F:Nat→Prop} {B:Nat} {w w':World} (h:KeptF F w w') (hF:∀k,k<B → ¬ F k) (hs:B≤w.heap.size):Below B w w' :=
 ⟨h.os,h.tape,h.output,h.size,fun k hk=>h.block k (by omega) (hF k hk)⟩
theorem KeptF.mono {F F':Nat→Prop} {w w':World} (h:KeptF F w w') (hF:∀k,F k→F' k):KeptF F' w w':=⟨h.os,h.tape,h.output,h.size,fun k hk hx=>h.block k hk fun h'=>hx (hF k h')⟩
theorem load_any {S lo:Nat} {d e n:Int} {p:Value} {w:World} {v:Sp.V} {p2:Option Addr} {s:Sp.By} (h:SB w S d e n p) (hS:S<lo) (hlo:lo≤w.heap.size) (hrep:Tr top lo w (.pointer p2) v) (hrd:Sp.readTo s d e=(0,some v)) :
  Calls Tryz.prog 43 #[.pointer (some ⟨S,0,none⟩),.pointer p2] w fun x w'=>x = .returned (ansA (0,0,[]))∧KeptF (fun k=>k=S) w w' ∧ ∃p',SB w' S d e n p'∧DocF w' (fun k=>lo≤k) p' d e (some (v,none)):=by
 have hlt:=h.lt
 have hba:Below w.heap.size w (w.alloc (.cells #[.int .i64 0,.int .i64 0,.string ⟨#[]⟩] 46)):=(Below.refl _ _).alloc (Nat.le_refl _) _
 have h0:=h.low hba
 have HS:=hide h0
 have HREP:=hide hrep
 have HAB:=hide (AB.new w)
 have HBA:=hide hba
 have hsz:(w.alloc (.cells #[.int .i64 0,.int .i64 0,.string ⟨#[]⟩] 46)).heap.size=w.heap.size+1:=by simp
 have HRD:=hide hrd
 clear h h0 hrep hba hrd
 go_enter Tryz.func43,Tryz.ntmps43
 go_wp2_with (fail)
 generalize w.alloc (.cells #[.int .i64 0,.int .i64 0,.string ⟨#[]⟩] 46)=wa at *
 refine (New_any p2 _).mono ?_
 rintro x w3 ⟨D,R,g,rfl,hb3,hD,hR,hg,hDR,hDg,hRg,hdb,hrb,hgb⟩
 have s3:=(unhide HS).low hb3
 have a3:=(unhide HAB).low hb3
 have g0:=a3.c0
 have g1:=a3.c1
 have g2:=a3.c2
 have z:=a3.fz
 have hSg:S≠w.heap.size:=by omega
 have S3:=hide s3
 have HB3:=hide ((unhide HBA).trans (hb3.mono (by omega)))
 have HDB:=hide hdb
 have HRB:=hide hrb
 have HGB:=hide hgb
 have hs3:=hb3.size
 have zs:=s3.fz
 have q3:=s3.c3
 clear a3 s3 hb3 hdb hrb hgb
 have HDOC:=hide (show DocW w3 (fun k=>lo≤k∧k≠w.heap.size) D R (.pointer p2) d e (v,none) from doc_new (by omega) hlo (unhide HREP) (unhide HB3) (by omega) (by omega) (by omega) hDR hDg hRg (fun k h1 h2=>⟨h1,by omega⟩) ⟨by omega,by omega⟩ ⟨by omega,by omega⟩ ⟨by omega,by omega⟩ (unhide HDB) (unhide HRB) (unhide HGB) (unhide HRD))
 clear HREP HDB HRB HGB HRD hsz
 go_wp2_with (fail)
 refine bodyPost_ret (v:=ansA (0,0,[])) (by simp[results,Tryz.results43,go_sem,ansA,g0,g1,g2]) rfl ?_
 have ho:∀k,k≠w.heap.size→((((w3.setCell ⟨S,3,none⟩ (.pointer (some ⟨D,0,none⟩))).setCell ⟨w.heap.size,0,none⟩ (.int .i64 0)).setCell ⟨w.heap.size,1,none⟩ (.int .i64 0)).setCell ⟨w.heap.size,2,none⟩ (.string ⟨#[]⟩)).heap[k]? = (w3.setCell ⟨S,3,none⟩ (.pointer (some ⟨D,0,none⟩))).heap[k]?:=fun k hk =>
  (Below.heap_setCell _ _ _ _ hk).trans ((Below.heap_setCell _ _ _ _ hk).trans (Below.heap_setCell _ _ _ _ hk))
 refine⟨rfl,((((KeptF.of_below (F:=fun k=>k=S) (unhide HB3)).setCell (p:=⟨S,3,none⟩) (Or.inl rfl) _).setCell (p:=⟨w.heap.size,0,none⟩) (Or.inr (Nat.le_refl _)) _).setCell (p:=⟨w.heap.size,1,none⟩) (Or.inr (Nat.le_refl _)) _).setCell (p:=⟨w.heap.size,2,none⟩) (Or.inr (Nat.le_refl _)) _,_,(ho S hSg).trans ((unhide S3).set3 _),D,R,.pointer p2,rfl,(unhide HDOC).move fun k h1 h2=>⟨(ho k h1.2).trans (Below.heap_setCell _ _ _ _ (by show k≠S;omega)),h1.1⟩⟩
end

section
set_option maxRecDepth 100000
open Go.RowKit
theorem ptr_info:(Tryz.prog.info? 80).map (fun i=>(i.zero,i.size,i.bytes))=some (some (.pointer none),1,8):=by kernel_rfl
theorem info_three {P:Program} {e:TypeId} {z:Value} {s b:Nat} (h:(P.info? e).map (fun i=>(i.zero,i.size,i.bytes))=some (some z,s,b)):∃i,P.info? e=some i∧i.zero=some z∧i.size=s∧i.bytes=b:=by
 obtain⟨i,hi,h⟩:=Option.map_eq_some_iff.1 h
 injection h with h1 h2
 injection h2 with h2 h3
 exact⟨i,hi,h1,h2,h3⟩
theorem copy_guard {P:Program} {ops:Array Oper} {Q:Exit→Act→World→Prop} {rest:List Oper} {a:Act} {w:World} {d:Option Nat} {x:Array Operand} {ts:Array TypeId} {ty:TypeId} {ps:String} {af:Array Edge} {g:Option (Nat×Bool)}
  (h:wpList P ops Q ({ dst:=d,op:=.call { callee:=.builtin .copy,args:=x,argTypes:=ts },type:=ty,pos:=ps,after:=af,guard:=g }::rest) a w) :
  wpList P ops Q ({ dst:=d,op:=.call { callee:=.builtin .copy,args:=x,argTypes:=ts },type:=ty,pos:=ps,after:=af,guard:=g }::rest) a w:=h
theorem grown_putRow {α:Type} [Inhabited α] (enc:α→Value) (w:World) (g q:Nat) (d:Array α):w.grownBy (Sort.putRow enc (Sort.ahead w q) g 0 d) (some g) :=
 ⟨rfl,rfl,rfl,by simp[Sort.putRow,Sort.mapBlock,Sort.ahead],fun k _ hne=>by
  have:g≠k:=fun e=>hne (by rw[e])
  simp[Sort.putRow,Sort.mapBlock,Sort.ahead,Array.getElem?_modify,this]⟩
theorem slDel {w:World} {sl:Value} {l:List (Option Addr)} {i:Nat} (ho:w.ownsRow 0 80 1 sl l.length (l.map Value.pointer)) (hi:i<l.length) :
  ∃g cap,sl = .slice (some ⟨g,0,none⟩) l.length cap∧Calls Tryz.prog 290 #[sl,.int .i64 i,.int .i64 ((i+1:Nat):Int)] w fun e w' =>
   e = .returned (.slice (some ⟨g,0,none⟩) (l.length-1) cap)∧w'.ownsRow 0 80 1 (.slice (some ⟨g,0,none⟩) (l.length-1) cap) (l.length-1) ((Sp.ldel i l).map Value.pointer)∧w.grownBy w' (some g):=by
 obtain⟨g,cap,rfl,_,hg,hn,hm,_,hH⟩:=Lib.holds_of_ownsRow ho (by
  rintro rfl
  rcases ho.2 with⟨_,h⟩|⟨g,cap,cur,h,_⟩
  ·omega
  ·cases h)
 refine⟨g,cap,rfl,?_⟩
 obtain⟨i0,hi0,_,hz1,_⟩:=info_three ptr_info
 have hc:=AnyE.slices_Delete Tryz.eDelete (α:=Option Addr) Value.pointer (fun _=>rfl) none Tryz.zeroValue80 i0 hi0 hz1 g 0 cap i (i+1) l.toArray w hH (by simpa using hn) (by simp[maxLen] at hm;omega) (by omega) (by simp;omega)
 refine hc.mono ?_
 rintro e w' ⟨rfl,q,rfl⟩
 have hlen:(Sp.ldel i l).length=l.length-1:=by have:=Sp.len_ldel hi;omega
 have e2:l.toArray.toList.take i++l.toArray.toList.drop (i+1)++List.replicate (i+1-i) (none:Option Addr)=Sp.ldel i l++[none]:=by
  simp[Sp.ldel,show i+1-i=1 by omega]
 rw[e2]
 refine⟨by simp[show i+1-i=1 by omega],?_,grown_putRow _ _ _ _ _⟩
 have h2:=Lib.ownsRow_putRow (q:=q) (k:=l.length-1) ho (ys:=Sp.ldel i l++[none]) (by simp[hlen];omega) (by omega)
 rw[List.take_append_of_le_length (by omega),List.take_of_length_le (by omega)] at h2
 exact h2
theorem overlaps_false {w:World} {g q off n c:Nat} {x:Value} {cur:Array Value} {t t':TypeId} (hg:w.heap[g]? = some (.cells cur t (0,0))) (hq:w.heap[q]? = some (.cells #[x] t' (0,0))) (hne:q≠g) :
  Sem.run Tryz.prog (Extern.SlicesOverlaps.overlaps #[106,106] #[4] #[.slice (some ⟨q,0,none⟩) 1 1,.slice (some ⟨g,off,none⟩) n c]) w = .ok (.bool false) w:=by
 have f1:∀o,w.frozen? ⟨q,o,none⟩=false:=fun o=>by simp[World.frozen?,hq]
 have f2:∀o,w.frozen? ⟨g,o,none⟩=false:=fun o=>by simp[World.frozen?,hg]
 have hn2:(q != g)=true:=by simpa using hne
 have hn3:(q == g)=false:=by simpa using hne
 have r1:∀a,Sem.run Tryz.prog (Sem.frozen a Sem.pure) w = .ok (w.frozen? a) w:=fun a=>by simp[Sem.run]
 have r2:Sem.run Tryz.prog (Sem.shape q Sem.pure) w = .ok (some (t',1)) w:=by simp[Sem.run,World.shape?,hq]
 have r3:Sem.run Tryz.prog (Sem.shape g Sem.pure) w = .ok (some (t,cur.size)) w:=by simp[Sem.run,World.shape?,hg]
 obtain⟨i0,hi0,_,hz1,_⟩:=info_three ptr_info
 have u:=Tryz.underlying106
 rw[show Extern.SlicesOverlaps.overlaps #[106,106] #[4] #[.slice (some ⟨q,0,none⟩) 1 1,.slice (some ⟨g,off,none⟩) n c]=(underlying 106 >>= _) from rfl]
 simp[run_underlying u,r1,r2,r3,sizeOf,typeInfo,hi0,hz1,frozen,f1,f2,hn2,hn3,noView,viewAt,mayBeOne,stringish,shape,Result.andThen]
theorem overlaps_run {w:World} {g q off n c:Nat} {x:Value} {cur:Array Value} {t t':TypeId} (hg:w.heap[g]? = some (.cells cur t (0,0))) (hq:w.heap[q]? = some (.cells #[x] t' (0,0))) (hne:q≠g) :
  (callFunc 310 #[.slice (some ⟨q,0,none⟩) 1 1,.slice (some ⟨g,off,none⟩) n c]).run Tryz.prog w = .ok (.value (.bool false)) w:=by
 rw[run_callFunc_extern (e:=Extern.SlicesOverlaps.overlaps #[106,106] #[4]) Tryz.func310 (by kernel_rfl) rfl (by kernel_rfl) (by kernel_rfl),overlaps_false hg hq hne]
 rfl
end

section
set_option maxRecDepth 100000
set_option maxHeartbeats 4000000
open Go.RowKit
def InsEnd (l:List (Option Addr)) (i:Nat) (x:Option Addr) (sl:Value) (w:World) (e:Ending) (w':World):Prop :=
 ∃g cap,e = .returned (.slice (some ⟨g,0,none⟩) (l.length+1) cap)∧w'.ownsRow 0 80 1 (.slice (some ⟨g,0,none⟩) (l.length+1) cap) (l.length+1) ((Sp.lins i x l).map Value.pointer)∧w.grownBy w' sl.ownBlock∧(sl.ownBlock=some g∨w.heap.size≤g)
section
variable {w:World} {sl:Value} {l:List (Option Addr)} {x:Option Addr} {q:Nat}
theorem ins_end (ho:w.ownsRow 0 80 1 sl l.length (l.map Value.pointer)) (hq:w.heap[q]? = some (.cells #[.pointer x] 80 (0,0))) (hb:l.length≤1000000000000) :
  Calls Tryz.prog 291 #[sl,.int .i64 l.length,.slice (some ⟨q,0,none⟩) 1 1] w (InsEnd l l.length x sl w):=by
 obtain⟨i0,hi0,hz0,hz1,hz2⟩:=info_three ptr_info
 obtain⟨N,hN⟩:∃N,N=l.length:=⟨_,rfl⟩
 obtain⟨a,c,rfl⟩:∃a c,sl = .slice a l.length c:=by
  rcases ho.2 with⟨h,h2⟩|⟨g,cap,cur,h,_⟩
  ·exact⟨none,0,by rw[h,h2]⟩
  ·exact⟨_,_,h⟩
 have hcap:l.length≤c:=by
  rcases ho.2 with⟨h,h2⟩|⟨g,cap,cur,h,_,_,h3,_⟩
  ·omega
  ·injection h with _ _ h;omega
 have hcell:w.cell? ⟨q,0,none⟩=some (.pointer x):=by simp[World.cell?,hq]
 have hn1:(N:Int)≤9223372036854775807:=by omega
 have HFIN:=hide (show ∀g cap w',w'.ownsRow 0 80 1 (.slice (some ⟨g,0,none⟩) (N+1) cap) (N+1) (l.map Value.pointer++[.pointer x])→w.grownBy w' (Value.slice a N c).ownBlock→((Value.slice a N c).ownBlock=some g∨g=w.heap.size)→InsEnd l N x (.slice a N c) w (.returned (.slice (some ⟨g,0,none⟩) (N+1) cap)) w' from fun g cap w' h1 h2 h3=>by
  refine⟨g,cap,by rw[hN],?_,h2,h3.imp id (fun h=>by omega)⟩
  have e:(Sp.lins N x l).map Value.pointer=l.map Value.pointer++[.pointer x]:=by
   unfold Sp.lins;rw[hN,List.take_length,List.drop_length];simp
  rw[e,← hN];exact h1)
 rw[← hN] at ho ⊢
 have HO:=hide ho
 have HL:=hide (show (l.map Value.pointer).length=N by simp[hN])
 have hle:N≤c:=by omega
 have hcm:c≤maxLen:=by
  rcases ho.2 with⟨h,_⟩|⟨g,cap,cur,h,_,_,_,h4,_⟩
  ·injection h with _ _ h;unfold maxLen;omega
  ·injection h with _ _ h;omega
 have hN2:N≤1000000000000:=by omega
 have hcN:(c=N) ∨ ¬ c=N:=Classical.em _
 clear ho hcap hN hq hb
 rcases hcN with hcN|hcN
 all_goals go_enter Tryz.func291,Tryz.ntmps291
 all_goals go_wp2_with (at_builtin;refine wpList_append_lies _ rfl _ _ 106 rfl 0 80 i0 (.pointer none) 1 8 Tryz.underlying106 hi0 hz0 hz1 hz2 rfl (by decide) _ _ _ rfl (unhide HO) ⟨q,0,none⟩ 1 1 [.pointer x] rfl rfl (fun j u hj=>by
   cases j with
   | zero=>injection hj with hj;subst hj;exact hcell
   | succ j=>simp at hj) (fun u hu=>by simp at hu;subst hu;rfl) (by decide) (by unfold maxLen;omega) (by omega) (by omega) w.heap.size rfl ?_;intro g2 cap2 w2 h1 h2 h3 _;have HEND:=hide (unhide HFIN g2 cap2 w2 h1 h2 h3);clear h1 h2 h3)
 all_goals (go_ret;exact unhide HEND)
end
end
end Go.Proofs.YtdpomdelmdofmaaGreatDoor
