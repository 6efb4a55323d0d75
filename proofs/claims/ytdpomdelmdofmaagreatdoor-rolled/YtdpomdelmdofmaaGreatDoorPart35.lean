/-
  Plain facts: what an operation of a patch leaves is within bounds, and what takes it back is.
-/
import Derived.Test.YtdpomdelmdofmaaGreatDoorPart34
import Derived.Test.YtdpomdelmdofmaaGreatDoorPart18
import Derived.Test.YtdpomdelmdofmaaGreatDoorPart33
import Derived.Laws.MakeOwn
namespace Go.Proofs.YtdpomdelmdofmaaGreatDoor
open Go.RowKit Go.Maps
namespace Sp
theorem child_pos {d x:Int} {f:Nat} {lv:Int} {v e:V} {t:By} (h:gd d x (f + 1) lv v) (hc:child v t = .ok e):∃ i,pos v t = some i ∧ (vkids v)[i]? = some e:=by
 obtain ⟨_,h⟩:=h
 rcases h with ⟨k,hk,rfl⟩ | ⟨s,hs,rfl⟩ | ⟨n,h1,h2,h3,rfl⟩ | ⟨es,h,rfl⟩ | ⟨es,h1,h2,rfl⟩
 ·cases hc
 ·cases hc
 ·cases hc
 ·obtain ⟨i,_,h2,h3⟩:=child_arr_kid hc
  exact ⟨i,h3,h2⟩
 ·have hp:∀ (es:List (Lit × V)),Pt (fun _ _=>True) (es.map fun p=>(p.1,DataW.held (Value.pointer none))) es:=by
   intro es
   induction es with
   | nil=>exact trivial
   | cons a r ih=>exact ⟨⟨rfl,_,rfl,trivial⟩,ih⟩
  have hc2:child (vObj es) t = (if Maps.has (.map es:V) (.string t) = true then .ok ((DataW.map es).atKey (.string t) .nil) else .error 11):=rfl
  rw [hc2] at hc
  split at hc
  ·rename_i hh
   injection hc with hc
   have hh2:=(hp es).has (.string t)
   obtain ⟨i,key,c,_,e1,e2,e3,_,_⟩:=(hp es).first (.string t) (hh2.trans hh)
   refine ⟨i,e1,?_⟩
   show (es.map Prod.snd)[i]? = some e
   rw [List.getElem?_map,e2,← hc,atKey_def,e3]
   rfl
  ·cases hc
theorem find_pos {d x:Int}:∀ {s:List By} {f:Nat} {lv:Int} {v n:V},gd d x f lv v → find v s = .ok n → ∃ q f',f' + 1 + q.length = f ∧ posn v s = some q ∧ vsub q v = some n
 | [],f,lv,v,n,h,hf=>by
  injection hf with hf
  subst hf
  cases f with
  | zero=>exact h.elim
  | succ f=>exact ⟨[],f,rfl,rfl,rfl⟩
 | t :: r,f,lv,v,n,h,hf=>by
  cases f with
  | zero=>exact h.elim
  | succ f =>
   rw [find] at hf
   cases hc:child v t with
   | error c=>rw [hc] at hf; cases hf
   | ok e =>
    rw [hc] at hf
    obtain ⟨i,h1,h2⟩:=child_pos h hc
    obtain ⟨q,f',e1,e2,e3⟩:=find_pos (gd_kid h h2) hf
    refine ⟨i :: q,f',by simp; omega,?_,?_⟩
    ·rw [posn,h1]; simp only [h2,e2]; rfl
    ·rw [vsub,h2]; exact e3
variable {d d' x:Int} {B B':Nat} {v n e xv:V} {s p q:List By} {t:By}
theorem fit_node (hv:Fit d x B v) (hf:find v s = .ok n):∃ q f,f + 1 + List.length q = top ∧ posn v s = some q ∧ vsub q v = some n ∧ gd d x (f + 1) (1 + q.length) n ∧ sz (f + 1) n ≤ B ∧ 1 + (q.length:Int) ≤ d ∧ 1000 ≤ f:=by
 obtain ⟨q,f,h1,h2,h3⟩:=find_pos hv.gd hf
 have hg:gd d x (f + 1 + q.length) 1 v:=by rw [h1]; exact hv.gd
 have g1:=gd_sub hg h3
 have g2:=sz_sub hg h3
 rw [h1] at g2
 have g3:=gd_lv g1
 have:=hv.sz
 have:=hv.dd
 have:=top_eq
 exact ⟨q,f,h1,h2,h3,g1,by omega,g3,by omega⟩
theorem Fit.mono (h:Fit d x B v) (hd:d ≤ d') (h5:d' ≤ 500) (hB:B ≤ B'):Fit d' x B' v:=⟨gd_mono hd h.gd,h5,Nat.le_trans h.sz hB⟩
theorem fit_find (hv:Fit d x B v) (hf:find v s = .ok n):Fit d x B n:=by
 obtain ⟨q,f,h1,h2,h3,h4,h5,h6,h7⟩:=fit_node hv hf
 have g1:=gd_lvl (s:=-(q.length:Int)) h4
 rw [show (1:Int) + q.length + -(q.length:Int) = 1 by omega] at g1
 have g2:gd d x (f + 1) 1 n:=gd_mono (by omega) g1
 refine ⟨gd_fuel g2 (by have:=hv.dd; have:=top_eq; omega),hv.dd,?_⟩
 rw [sz_up g2 (by omega)]
 exact h5
theorem fit_put {f:Nat} {qq:List Nat} {n':V} (hv:Fit d x B v) (h1:f + 1 + qq.length = top) (h3:vsub qq v = some n) (hd:d ≤ d') (h5:d' ≤ 500) (hg:gd d' x (f + 1) (1 + qq.length) n') (hs:sz (f + 1) n' ≤ sz (f + 1) n + B'):Fit d' x (B + B') (vput qq n' v):=by
 have hgv:gd d' x (f + 1 + qq.length) 1 v:=by rw [h1]; exact gd_mono hd hv.gd
 have g1:=gd_put hgv h3 hg
 have g2:=sz_put (n':=n') hgv h3
 rw [h1] at g1 g2
 have:=hv.sz
 exact ⟨g1,h5,by omega⟩
theorem gd_in {f:Nat} {k:Nat} (hx:Fit d' x B' xv) (hk:1 + (k:Int) ≤ d) (h5:d + d' ≤ 500) (hf:1000 ≤ f):gd (d + d') x f (1 + (k:Int) + 1) xv ∧ sz f xv ≤ B':=by
 have g1:=gd_lvl (s:=1 + (k:Int)) hx.gd
 have g2:=gd_mono (D:=d + d') (by omega) g1
 rw [show (1:Int) + (1 + (k:Int)) = 1 + (k:Int) + 1 by omega] at g2
 refine ⟨gd_fuel g2 (by omega),?_⟩
 have g3:=gd_fuel (f:=f) hx.gd (by have:=hx.dd; omega)
 have h9:=hx.sz
 by_cases hft:f ≤ top
 ·rw [sz_up g3 hft] at h9; exact h9
 ·rw [sz_up hx.gd (by omega)]; exact h9
theorem quo_tok (h:PathOk p) (ht:t ∈ p):(quoT t).length ≤ 600002:=by
 have:=escS_le t
 have:=h.tok t ht
 omega
theorem ut_nil:Ut noB:=⟨[],(fun c h=>by cases h),rfl⟩
def OnOk (d x:Int) (B:Nat) (o:Opn):Prop:=(o.2.1.map fun t=>t.length + 1).sum ≤ 200000 ∧ (o.1 ≠ 1 → Fit d x B o.2.2)
theorem sum_snoc (s:List By) (t:By):((s ++ [t]).map fun t=>t.length + 1).sum = (s.map fun t=>t.length + 1).sum + (t.length + 1):=by simp
theorem itoa_small (i:Nat) (h:i ≤ 1000000000000):(Lib.itoa (i:Int)).length ≤ 1000:=by
 have:=Lib.itoa_length_le (i:Int) (by omega) (by omega)
 omega
theorem dadd_fit {v':V} {j:List Opn} (hv:Fit d x B v) (hx:Fit d' x B' xv) (hp:PathOk p) (h5:d + d' ≤ 500) (hB:B ≤ 900000000) (h:dadd v p xv = .ok (v',j)):Fit (d + d') x (B + (B' + 600004)) v' ∧ ∀ o ∈ j,OnOk d x B o:=by
 have hd1:=gd_lv hv.gd
 have hd2:=gd_lv hx.gd
 unfold dadd pSplit at h
 cases hl:p.getLast? with
 | none =>
  rw [hl] at h
  injection h with h
  injection h with e1 e2
  subst e1; subst e2
  refine ⟨hx.mono (by omega) h5 (by omega),fun o ho=>?_⟩
  obtain rfl:o = (2,[],v):=by simpa using ho
  exact ⟨by simp,fun _=>hv⟩
 | some t =>
  have hne:p ≠ []:=by rintro rfl; cases hl
  obtain ⟨s,t',rfl⟩:∃ s t,p = s ++ [t]:=⟨p.dropLast,p.getLast hne,(List.dropLast_concat_getLast hne).symm⟩
  rw [List.getLast?_concat] at hl
  injection hl with hl
  subst hl
  simp only [List.getLast?_concat,List.dropLast_concat] at h
  cases hf:find v s with
  | error c=>rw [hf] at h; cases h
  | ok n =>
   rw [hf] at h
   simp only at h
   obtain ⟨qq,f,h1,h2,h3,h4,h5',h6,h7⟩:=fit_node hv hf
   obtain ⟨g1,g2⟩:=gd_in (d:=d) hx h6 h5 h7
   have hq:=quo_tok hp (show t' ∈ s ++ [t'] by simp)
   have hut:Ut t':=hp.2 t' (by simp)
   have hsum:=hp.1
   rw [sum_snoc] at hsum
   have hn4:=gd_mono (D:=d + d') (by omega) h4
   unfold addAt at h
   split at h
   ·rename_i es
    split at h
    ·rename_i hh
     injection h with h
     injection h with e1 e2
     subst e1; subst e2
     rw [way_of h2]
     refine ⟨fit_put hv h1 h3 (by omega) h5 (gd_set hn4 hut g1) ?_,fun o ho=>?_⟩
     ·have:=sz_set (f:=f) (i:=0) (k:=t') (c:=xv) (v:=.map es); omega
     ·obtain rfl:o = (2,s ++ [t'],(DataW.map es).atKey (.string t') .nil):=by simpa using ho
      refine ⟨by rw [sum_snoc]; omega,fun _=>?_⟩
      have hch:find v (s ++ [t']) = .ok ((DataW.map es).atKey (.string t') .nil):=by
       rw [find_snoc,hf]
       show (if Maps.has (.map es:V) (.string t') = true then Except.ok ((DataW.map es).atKey (.string t') .nil) else .error 11) = _
       rw [if_pos hh]
      exact fit_find hv hch
    ·injection h with h
     injection h with e1 e2
     subst e1; subst e2
     rw [way_of h2]
     refine ⟨fit_put hv h1 h3 (by omega) h5 (gd_ins hn4 hut g1) ?_,fun o ho=>?_⟩
     ·have:=sz_ins (f:=f) (i:=0) (k:=t') (c:=xv) (v:=.map es); omega
     ·obtain rfl:o = (1,s ++ [t'],.nil):=by simpa using ho
      exact ⟨by rw [sum_snoc]; omega,fun hh=>absurd rfl hh⟩
   ·rename_i es y
    split at h
    ·cases h
    ·rename_i i hi
     injection h with h
     injection h with e1 e2
     subst e1; subst e2
     rw [way_of h2]
     have hi2:=slot_lt hi
     have hk:=kids_sz (f:=f) (v:=.slice es y)
     have hk2:es.length ≤ B:=Nat.le_trans hk h5'
     refine ⟨fit_put hv h1 h3 (by omega) h5 (gd_ins hn4 ut_nil g1) ?_,fun o ho=>?_⟩
     ·have:=sz_ins (f:=f) (i:=i) (k:=noB) (c:=xv) (v:=.slice es y)
      have e9:(quoT noB).length = 2:=rfl
      omega
     ·obtain rfl:o = (1,s ++ [Lib.itoa (i:Int)],.nil):=by simpa using ho
      refine ⟨?_,fun hh=>absurd rfl hh⟩
      have:=itoa_small i (by omega)
      rw [sum_snoc]
      omega
   ·cases h
theorem drem_fit' {v':V} {j:List Opn} (hv:Fit d x B v) (hp:PathOk p) (h:drem v p = .ok (v',j)):Fit d x B v' ∧ ∀ o ∈ j,OnOk d x B o:=by
 unfold drem pSplit at h
 cases hl:p.getLast? with
 | none=>rw [hl] at h; cases h
 | some t =>
  have hne:p ≠ []:=by rintro rfl; cases hl
  obtain ⟨s,t',rfl⟩:∃ s t,p = s ++ [t]:=⟨p.dropLast,p.getLast hne,(List.dropLast_concat_getLast hne).symm⟩
  simp only [List.getLast?_concat,List.dropLast_concat] at h
  cases hf:find v s with
  | error c=>rw [hf] at h; cases h
  | ok n =>
   rw [hf] at h
   simp only at h
   cases hc:child n t' with
   | error c=>rw [hc] at h; cases h
   | ok e =>
    rw [hc] at h
    simp only at h
    injection h with h
    injection h with e1 e2
    subst e1; subst e2
    obtain ⟨qq,f,h1,h2,h3,h4,h5',h6,h7⟩:=fit_node hv hf
    rw [way_of h2]
    have h8:=fit_put (B':=0) hv h1 h3 (Int.le_refl _) hv.dd (gd_rem (i:=(idx t').getD 0) (k:=t') h4) (by have:=sz_rem (f:=f) (i:=(idx t').getD 0) (k:=t') (v:=n); omega)
    refine ⟨h8,fun o ho=>?_⟩
    obtain rfl:o = (0,s ++ [t'],e):=by simpa using ho
    exact ⟨by have:=hp.1; simp only; omega,fun _=>fit_find hv (by rw [find_snoc,hf]; exact hc)⟩
theorem drep_fit {v':V} {j:List Opn} (hv:Fit d x B v) (hx:Fit d' x B' xv) (hp:PathOk p) (h5:d + d' ≤ 500) (h:drep v p xv = .ok (v',j)):Fit (d + d') x (B + (B' + 600004)) v' ∧ ∀ o ∈ j,OnOk d x B o:=by
 have hd1:=gd_lv hv.gd
 have hd2:=gd_lv hx.gd
 unfold drep pSplit at h
 cases hl:p.getLast? with
 | none =>
  rw [hl] at h
  injection h with h
  injection h with e1 e2
  subst e1; subst e2
  refine ⟨hx.mono (by omega) h5 (by omega),fun o ho=>?_⟩
  obtain rfl:o = (2,[],v):=by simpa using ho
  exact ⟨by simp,fun _=>hv⟩
 | some t =>
  have hne:p ≠ []:=by rintro rfl; cases hl
  obtain ⟨s,t',rfl⟩:∃ s t,p = s ++ [t]:=⟨p.dropLast,p.getLast hne,(List.dropLast_concat_getLast hne).symm⟩
  simp only [List.getLast?_concat,List.dropLast_concat] at h
  cases hf:find v s with
  | error c=>rw [hf] at h; cases h
  | ok n =>
   rw [hf] at h
   simp only at h
   cases hc:child n t' with
   | error c=>rw [hc] at h; cases h
   | ok e =>
    rw [hc] at h
    simp only at h
    injection h with h
    injection h with e1 e2
    subst e1; subst e2
    obtain ⟨qq,f,h1,h2,h3,h4,h5',h6,h7⟩:=fit_node hv hf
    obtain ⟨g1,g2⟩:=gd_in (d:=d) hx h6 h5 h7
    have hq:=quo_tok hp (show t' ∈ s ++ [t'] by simp)
    have hut:Ut t':=hp.2 t' (by simp)
    have hn4:=gd_mono (D:=d + d') (by omega) h4
    rw [way_of h2]
    refine ⟨fit_put hv h1 h3 (by omega) h5 (gd_set hn4 hut g1) ?_,fun o ho=>?_⟩
    ·have:=sz_set (f:=f) (i:=(idx t').getD 0) (k:=t') (c:=xv) (v:=n); omega
    ·obtain rfl:o = (2,s ++ [t'],e):=by simpa using ho
     exact ⟨by have:=hp.1; simp only; omega,fun _=>fit_find hv (by rw [find_snoc,hf]; exact hc)⟩
theorem do1_fit {v':V} {j:List Opn} {o:Op2} (hv:Fit d x 200000 v) (ho:OpOk (d + 2) x 200000 o) (h5:d ≤ 100) (h:do1 v o = .ok (v',j)):Fit (d + (d + 2)) x 1100000 v' ∧ (∀ o ∈ j,OnOk d x 200000 o) ∧ j.length ≤ 2:=by
 obtain ⟨k,p,q,xv⟩:=o
 obtain ⟨k1,k2,k3⟩:=ho
 have hd1:=gd_lv hv.gd
 simp only at k1 k2 k3
 have hmono:∀ {w:V} {D:Int} {C:Nat},Fit D x C w → D ≤ d + (d + 2) → C ≤ 1100000 → Fit (d + (d + 2)) x 1100000 w:=fun hw h1 h2=>hw.mono h1 (by omega) h2
 have one:∀ {p:List By} {xv v':V} {j:List Opn},dadd v p xv = .ok (v',j) → j.length ≤ 1:=by
  intro p xv v' j h
  unfold dadd at h
  split at h
  ·injection h with h; injection h with _ h; subst h; simp
  ·split at h
   ·cases h
   ·unfold addAt at h
    repeat' split at h
    all_goals first | (injection h with h; injection h with _ h; subst h; simp) | cases h
 unfold do1 at h
 simp only at h
 split at h
 ·rename_i hk
  obtain ⟨r1,r2⟩:=dadd_fit hv (k3 (Or.inl hk)) k1 (by omega) (by omega) h
  exact ⟨hmono r1 (by omega) (by omega),r2,Nat.le_trans (one h) (by omega)⟩
 ·split at h
  ·obtain ⟨r1,r2⟩:=drem_fit' hv k1 h
   refine ⟨hmono r1 (by omega) (by omega),r2,?_⟩
   unfold drem at h
   repeat' split at h
   all_goals first | (injection h with h; injection h with _ h; subst h; simp) | cases h
  ·split at h
   ·rename_i hk
    obtain ⟨r1,r2⟩:=drep_fit hv (k3 (Or.inr (Or.inl hk))) k1 (by omega) h
    refine ⟨hmono r1 (by omega) (by omega),r2,?_⟩
    unfold drep at h
    repeat' split at h
    all_goals first | (injection h with h; injection h with _ h; subst h; simp) | cases h
   ·split at h
    ·rename_i hk
     have kq:=k2 (Or.inl hk)
     unfold dmove at h
     cases hf:find v q with
     | error c=>rw [hf] at h; cases h
     | ok e =>
      rw [hf] at h
      simp only at h
      split at h
      ·injection h with h
       injection h with e1 e2
       subst e1; subst e2
       exact ⟨hmono hv (by omega) (by omega),(fun o ho=>by cases ho),by simp⟩
      ·split at h
       ·cases h
       ·cases hr:drem v q with
        | error c=>rw [hr] at h; cases h
        | ok vj =>
         obtain ⟨v1,j1⟩:=vj
         rw [hr] at h
         simp only at h
         obtain ⟨r1,r2⟩:=drem_fit' hv kq hr
         have hj1:j1.length ≤ 1:=by
          unfold drem at hr
          repeat' split at hr
          all_goals first | (injection hr with hr; injection hr with _ hr; subst hr; simp) | cases hr
         cases ha:dadd v1 p e with
         | error c=>rw [ha] at h; cases h
         | ok vj2 =>
          obtain ⟨v2,j2⟩:=vj2
          rw [ha] at h
          injection h with h
          injection h with e1 e2
          subst e1; subst e2
          obtain ⟨s1,s2⟩:=dadd_fit r1 (fit_find hv hf) k1 (by omega) (by omega) ha
          have hj2:j2.length ≤ 1:=by
           unfold dadd at ha
           split at ha
           ·injection ha with ha; injection ha with _ ha; subst ha; simp
           ·split at ha
            ·cases ha
            ·unfold addAt at ha
             repeat' split at ha
             all_goals first | (injection ha with ha; injection ha with _ ha; subst ha; simp) | cases ha
          exact ⟨hmono s1 (by omega) (by omega),fun o ho=>(List.mem_append.1 ho).elim (r2 o) (s2 o),by simp; omega⟩
    ·split at h
     ·unfold dcopy at h
      cases hf:find v q with
      | error c=>rw [hf] at h; cases h
      | ok e =>
       rw [hf] at h
       obtain ⟨s1,s2⟩:=dadd_fit hv (fit_find hv hf) k1 (by omega) (by omega) h
       exact ⟨hmono s1 (by omega) (by omega),s2,Nat.le_trans (one h) (by omega)⟩
     ·unfold dtest at h
      cases hf:find v p with
      | error c=>rw [hf] at h; cases h
      | ok e =>
       rw [hf] at h
       simp only at h
       split at h
       ·injection h with h
        injection h with e1 e2
        subst e1; subst e2
        exact ⟨hmono hv (by omega) (by omega),(fun o ho=>by cases ho),by simp⟩
       ·cases h
theorem meas_fit {D:Int} {C:Nat} (hv:Fit D x C v) (h5:d ≤ 100) (h:meas d v = 0):Fit d x 40000 v ∧ (can top v).length ≤ 20000:=by
 unfold meas at h
 split at h
 ·cases h
 ·split at h
  ·cases h
  ·rename_i h1 h2
   have g:=gd_dep hv.gd (show 1 + dep top v ≤ d + 1 by omega)
   have:=(can_sz hv.gd).2
   exact ⟨⟨g,by omega,by omega⟩,by omega⟩
theorem do1_ne {c:Nat} {o:Op2} (h:do1 v o = .error c):c ≠ 0:=by
 have hadd:∀ {v:V} {p:List By} {xv:V} {c:Nat},dadd v p xv = .error c → c ≠ 0:=by
  intro v p xv c h
  unfold dadd at h
  split at h
  ·cases h
  ·split at h
   ·rename_i hf; injection h with h; subst h; exact find_ne hf
   ·unfold addAt at h
    split at h
    ·split at h <;> cases h
    ·split at h
     ·rename_i hs; injection h with h; subst h; exact slot_err hs
     ·cases h
    ·injection h with h; omega
 have hch:∀ {v:V} {t:By} {c:Nat},child v t = .error c → c ≠ 0:=fun h=>by have:=child_err h; omega
 have hrem:∀ {v:V} {p:List By} {c:Nat},drem v p = .error c → c ≠ 0:=by
  intro v p c h
  unfold drem at h
  split at h
  ·injection h with h; omega
  ·split at h
   ·rename_i hf; injection h with h; subst h; exact find_ne hf
   ·split at h
    ·rename_i hc; injection h with h; subst h; exact hch hc
    ·cases h
 unfold do1 at h
 split at h
 ·exact hadd h
 ·split at h
  ·exact hrem h
  ·split at h
   ·unfold drep at h
    split at h
    ·cases h
    ·split at h
     ·rename_i hf; injection h with h; subst h; exact find_ne hf
     ·split at h
      ·rename_i hc; injection h with h; subst h; exact hch hc
      ·cases h
   ·split at h
    ·unfold dmove at h
     split at h
     ·rename_i hf; injection h with h; subst h; exact find_ne hf
     ·split at h
      ·cases h
      ·split at h
       ·injection h with h; omega
       ·split at h
        ·rename_i hr; injection h with h; subst h; exact hrem hr
        ·split at h
         ·rename_i ha; injection h with h; subst h; exact hadd ha
         ·cases h
    ·split at h
     ·unfold dcopy at h
      split at h
      ·rename_i hf; injection h with h; subst h; exact find_ne hf
      ·exact hadd h
     ·unfold dtest at h
      split at h
      ·rename_i hf; injection h with h; subst h; exact find_ne hf
      ·split at h
       ·cases h
       ·injection h with h; omega
end Sp
end Go.Proofs.YtdpomdelmdofmaaGreatDoor

namespace Go.Proofs.YtdpomdelmdofmaaGreatDoor
open Go.RowKit Go.Maps
namespace Sp
theorem pcs_sum:∀ l:By,((pcs l).map fun t=>t.length + 1).sum = l.length + 1
 | []=>rfl
 | c :: r=>by
  have ih:=pcs_sum r
  unfold pcs
  split
  ·simp [ih]; omega
  ·cases h:pcs r with
   | nil=>rw [h] at ih; simp at ih
   | cons p ps=>rw [h] at ih; simp at ih ⊢; omega
theorem une_le (n:Nat):∀ (l k:By),l.length ≤ n → une l = some k → k.length ≤ l.length:=by
 induction n with
 | zero =>
  intro l k hl h
  obtain rfl:l = []:=List.eq_nil_of_length_eq_zero (by omega)
  injection h with h; subst h; exact Nat.le_refl _
 | succ n ih =>
  intro l k hl h
  cases l with
  | nil=>injection h with h; subst h; exact Nat.le_refl _
  | cons c r =>
   rw [une_eq] at h
   simp only [List.length_cons] at hl
   split at h
   ·split at h
    ·rename_i q
     cases hq:une q with
     | none=>rw [hq] at h; cases h
     | some k' =>
      rw [hq] at h
      injection h with h; subst h
      have:=ih q k' (by simp only [List.length_cons] at hl; omega) hq
      simp only [List.length_cons]; omega
    ·rename_i q
     cases hq:une q with
     | none=>rw [hq] at h; cases h
     | some k' =>
      rw [hq] at h
      injection h with h; subst h
      have:=ih q k' (by simp only [List.length_cons] at hl; omega) hq
      simp only [List.length_cons]; omega
    ·cases h
   ·cases hq:une r with
    | none=>rw [hq] at h; cases h
    | some k' =>
     rw [hq] at h
     injection h with h; subst h
     have:=ih r k' (by omega) hq
     simp only [List.length_cons]; omega
theorem keysOf_sum:∀ (ts ks:List By),keysOf ts = some ks → (ks.map fun t=>t.length + 1).sum ≤ (ts.map fun t=>t.length + 1).sum
 | [],ks,h=>by injection h with h; subst h; exact Nat.le_refl _
 | t :: r,ks,h=>by
  unfold keysOf at h
  split at h
  ·cases h
  ·rename_i k hk
   cases hr:keysOf r with
   | none=>rw [hr] at h; cases h
   | some ks' =>
    rw [hr] at h
    injection h with h; subst h
    have h1:=une_le t.length t k (Nat.le_refl _) hk
    have h2:=keysOf_sum r ks' hr
    simp only [List.map_cons,List.sum_cons]; omega
theorem toks_sum {l:By} {ks:List By} (h:toks l = some ks):(ks.map fun t=>t.length + 1).sum ≤ l.length:=by
 unfold toks at h
 split at h
 ·split at h
  ·rename_i r hp
   have h1:=pcs_sum l
   rw [hp] at h1
   have h2:=keysOf_sum _ _ h
   simp only [List.map_cons,List.sum_cons,List.length_nil] at h1
   omega
  ·cases h
 ·cases h
theorem enc_is {c:Nat} (hc:Sc c) (b:Nat) (hb:b < 128):(c = b ∧ encN c = [UInt8.ofNat b]) ∨ (c ≠ b ∧ ∀ x ∈ encN c,x ≠ UInt8.ofNat b):=by
 by_cases h:c = b
 ·subst h; exact Or.inl ⟨rfl,enc_one c hb⟩
 ·refine Or.inr ⟨h,fun x hx e=>?_⟩
  have hbn:(UInt8.ofNat b).toNat = b:=by simp; omega
  by_cases h1:c < 128
  ·rw [show encN c = [UInt8.ofNat c] from enc_one c h1] at hx
   have h2:UInt8.ofNat c = UInt8.ofNat b:=(List.mem_singleton.1 hx).symm.trans e
   have h3:=congrArg UInt8.toNat h2
   rw [hbn] at h3
   simp at h3
   omega
  ·have h2:=(enc_high c (by omega) hc []).1 x hx
   rw [e,hbn] at h2
   omega
theorem enc_ne {c:Nat} (hc:Sc c):∃ x r,encN c = x :: r:=by
 by_cases h1:c < 128
 ·exact ⟨_,_,enc_one c h1⟩
 ·have h2:=(enc_high c (by omega) hc []).2.2
  cases he:encN c with
  | nil =>
   have h3:2 ≤ (encN c).length:=by first | exact h2 | exact h2.1
   rw [he] at h3; simp at h3
  | cons x r=>exact ⟨x,r,rfl⟩
theorem pcs_app {a:By} (h:∀ x ∈ a,x ≠ 47) (l:By):∃ p ps,pcs l = p :: ps ∧ pcs (a ++ l) = (a ++ p) :: ps:=by
 induction a with
 | nil =>
  cases hp:pcs l with
  | nil=>have:=pcs_sum l; rw [hp] at this; simp at this
  | cons p ps=>exact ⟨p,ps,rfl,hp⟩
 | cons c r ih =>
  obtain ⟨p,ps,h1,h2⟩:=ih fun x hx=>h x (by simp [hx])
  refine ⟨p,ps,h1,?_⟩
  show pcs (c :: (r ++ l)) = _
  unfold pcs
  rw [if_neg (h c (by simp)),h2]
  rfl
theorem ut_cons {c:Nat} (hc:Sc c) {s:By} (h:Ut s):Ut (encN c ++ s):=by
 obtain ⟨cs,h1,rfl⟩:=h
 exact ⟨c :: cs,fun x hx=>(List.mem_cons.1 hx).elim (fun e=>e ▸ hc) (h1 x),by simp⟩
theorem pcs_ut:∀ (cs:List Nat),(∀ c ∈ cs,Sc c) → ∀ t ∈ pcs (cs.flatMap encN),Ut t
 | [],_,t,ht=>by
  obtain rfl:t = []:=by simpa [pcs] using ht
  exact ut_nil
 | c :: cs,h,t,ht=>by
  have hc:=h c (by simp)
  have ih:=pcs_ut cs fun x hx=>h x (by simp [hx])
  rw [List.flatMap_cons] at ht
  rcases enc_is hc 47 (by omega) with ⟨rfl,e⟩ | ⟨hne,e⟩
  ·rw [e] at ht
   have e2:pcs ([UInt8.ofNat 47] ++ cs.flatMap encN) = [] :: pcs (cs.flatMap encN):=by show pcs (47 :: cs.flatMap encN) = _; rw [pcs,if_pos rfl]
   rw [e2] at ht
   rcases List.mem_cons.1 ht with rfl | ht
   ·exact ut_nil
   ·exact ih t ht
  ·obtain ⟨p,ps,h1,h2⟩:=pcs_app e (cs.flatMap encN)
   rw [h2] at ht
   rw [h1] at ih
   rcases List.mem_cons.1 ht with rfl | ht
   ·exact ut_cons hc (ih p (by simp))
   ·exact ih t (by simp [ht])
theorem une_app {a:By} (h:∀ x ∈ a,x ≠ 126) (l:By):une (a ++ l) = (une l).map (a ++ ·):=by
 induction a with
 | nil=>show une l = _; cases une l <;> rfl
 | cons c r ih =>
  show une (c :: (r ++ l)) = _
  rw [une_eq,if_neg (h c (by simp)),ih fun x hx=>h x (by simp [hx])]
  cases une l <;> rfl
theorem une_ut (n:Nat):∀ (cs:List Nat),cs.length ≤ n → (∀ c ∈ cs,Sc c) → ∀ k,une (cs.flatMap encN) = some k → Ut k:=by
 induction n with
 | zero =>
  intro cs hl _ k hk
  obtain rfl:cs = []:=List.eq_nil_of_length_eq_zero (by omega)
  injection hk with hk; subst hk; exact ut_nil
 | succ n ih =>
  intro cs hl h k hk
  cases cs with
  | nil=>injection hk with hk; subst hk; exact ut_nil
  | cons c cs =>
   have hc:=h c (by simp)
   simp only [List.length_cons] at hl
   rw [List.flatMap_cons] at hk
   rcases enc_is hc 126 (by omega) with ⟨rfl,e⟩ | ⟨hne,e⟩
   ·rw [e] at hk
    have hk2:une (126 :: cs.flatMap encN) = some k:=hk
    rw [une_eq,if_pos rfl] at hk2
    cases cs with
    | nil=>cases hk2
    | cons c2 cs =>
     have hc2:=h c2 (by simp)
     have h3:∀ c ∈ cs,Sc c:=fun x hx=>h x (by simp [hx])
     simp only [List.length_cons] at hl
     rw [List.flatMap_cons] at hk2
     have hgo:∀ (z:Nat) (hz:Sc z) (u:By) ,une (cs.flatMap encN) = some u → Ut (encN z ++ u):=fun z hz u hu=>ut_cons hz (ih cs (by omega) h3 u hu)
     have h126:Sc 126:=Or.inl (by omega)
     have h47:Sc 47:=Or.inl (by omega)
     rcases enc_is hc2 48 (by omega) with ⟨rfl,e2⟩ | ⟨hne2,e2⟩
     ·rw [e2] at hk2
      have hk3:(une (cs.flatMap encN)).map (126 :: ·) = some k:=hk2
      cases hu:une (cs.flatMap encN) with
      | none=>rw [hu] at hk3; cases hk3
      | some u =>
       rw [hu] at hk3
       injection hk3 with hk3; subst hk3
       have:=hgo 126 h126 u hu
       rw [show encN 126 = [126] from enc_one 126 (by omega)] at this
       exact this
     ·rcases enc_is hc2 49 (by omega) with ⟨rfl,e3⟩ | ⟨hne3,e3⟩
      ·rw [e3] at hk2
       have hk3:(une (cs.flatMap encN)).map (47 :: ·) = some k:=hk2
       cases hu:une (cs.flatMap encN) with
       | none=>rw [hu] at hk3; cases hk3
       | some u =>
        rw [hu] at hk3
        injection hk3 with hk3; subst hk3
        have:=hgo 47 h47 u hu
        rw [show encN 47 = [47] from enc_one 47 (by omega)] at this
        exact this
      ·obtain ⟨x,r,hx⟩:=enc_ne hc2
       rw [hx] at hk2 e2 e3
       have a1:x ≠ 48:=e2 x (by simp)
       have a2:x ≠ 49:=e3 x (by simp)
       exfalso
       revert hk2
       show (match x :: (r ++ cs.flatMap encN) with | 48 :: q=>(une q).map (126 :: ·) | 49 :: q=>(une q).map (47 :: ·) | _=>none) = some k → False
       split
       ·rename_i q hq; injection hq with hq; exact absurd hq a1
       ·rename_i q hq; injection hq with hq; exact absurd hq a2
       ·intro h; cases h
   ·have e4:∀ x ∈ encN c,x ≠ (126:UInt8):=e
    rw [une_app e4] at hk
    cases hu:une (cs.flatMap encN) with
    | none=>rw [hu] at hk; cases hk
    | some u =>
     rw [hu] at hk
     injection hk with hk; subst hk
     exact ut_cons hc (ih cs (by omega) (fun x hx=>h x (by simp [hx])) u hu)
theorem keysOf_ut:∀ (ts ks:List By),(∀ t ∈ ts,Ut t) → keysOf ts = some ks → ∀ k ∈ ks,Ut k
 | [],ks,_,h,k,hk=>by injection h with h; subst h; cases hk
 | t :: r,ks,ht,h,k,hk=>by
  unfold keysOf at h
  split at h
  ·cases h
  ·rename_i k1 hk1
   cases hr:keysOf r with
   | none=>rw [hr] at h; cases h
   | some ks' =>
    rw [hr] at h
    injection h with h; subst h
    rcases List.mem_cons.1 hk with rfl | hk
    ·obtain ⟨cs,h1,rfl⟩:=ht t (by simp)
     exact une_ut cs.length cs (Nat.le_refl _) h1 _ hk1
    ·exact keysOf_ut r ks' (fun t ht'=>ht t (by simp [ht'])) hr k hk
theorem toks_ut {l:By} {ks:List By} (hl:Ut l) (h:toks l = some ks):∀ k ∈ ks,Ut k:=by
 obtain ⟨cs,h1,rfl⟩:=hl
 have h2:=pcs_ut cs h1
 unfold toks at h
 split at h
 ·split at h
  ·rename_i r hp
   rw [hp] at h2
   exact keysOf_ut r ks (fun t ht=>h2 t (by simp [ht])) h
  ·cases h
 ·cases h
theorem toks_ok {l:By} {ks:List By} (hl:Ut l) (hn:l.length ≤ 100000) (h:toks l = some ks):PathOk ks:=⟨Nat.le_trans (toks_sum h) hn,toks_ut hl h⟩
end Sp
end Go.Proofs.YtdpomdelmdofmaaGreatDoor

namespace Go.Proofs.YtdpomdelmdofmaaGreatDoor
open Go.RowKit Go.Maps
theorem kindOf_facts {nm:Sp.By} {hv hf:Bool} {k:Nat} (h:Sp.kindOf nm hv hf = some k):k < 6 ∧ ((k = 0 ∨ k = 2 ∨ k = 5) → hv = true) ∧ ((k = 3 ∨ k = 4) → hf = true):=by
 unfold Sp.kindOf at h
 repeat' split at h
 all_goals first
  | (injection h with h; subst h; simp_all)
  | cases h
namespace Sp
theorem escB_one (c:UInt8):1 ≤ (escB c).length:=by
 unfold escB
 repeat' split
 all_goals simp
theorem escS_ge:∀ s:By,s.length ≤ (escS s).length
 | []=>Nat.le_refl _
 | c :: r=>by
  have h1:=escB_one c
  have h2:=escS_ge r
  simp only [escS,List.length_append,List.length_cons]
  omega
theorem quoT_ge (s:By):s.length ≤ (quoT s).length:=by
 have:=escS_ge s
 simp [quoT]; omega
theorem str_ge {f:Nat} {s:By}:s.length ≤ (can (f + 1) (vStr s)).length:=by rw [can_str]; exact quoT_ge s
theorem elem_can {f:Nat} {es:List V}:es.length ≤ (can (f + 1) (vArr es)).length ∧ ∀ e ∈ es,(can f e).length ≤ (can (f + 1) (vArr es)).length:=by
 have h2:(es.map fun e=>(can f e).length + 1).sum ≤ (joinC (es.map (can f))).length + 1:=by
  have h2:=joinR_sumE (es.map (can f))
  rw [List.map_map] at h2
  exact h2
 have h3:∀ l:List V,l.length ≤ (l.map fun e=>(can f e).length + 1).sum ∧ ∀ e ∈ l,(can f e).length ≤ (l.map fun e=>(can f e).length + 1).sum:=fun l=>by
  induction l with
  | nil=>exact ⟨Nat.le_refl _,fun e he=>by cases he⟩
  | cons a r ih =>
   obtain ⟨i1,i2⟩:=ih
   simp only [List.map_cons,List.sum_cons,List.length_cons]
   refine ⟨by omega,fun e he=>?_⟩
   rcases List.mem_cons.1 he with rfl | he
   ·omega
   ·have:=i2 e he; omega
 obtain ⟨h4,h5⟩:=h3 es
 rw [can_arr]
 simp only [List.length_cons,List.length_append,List.length_nil]
 exact ⟨by omega,fun e he=>by have:=h5 e he; omega⟩
theorem mem_child {d y:V} {k:By} (h:pMem d k = some y):child d k = .ok y:=by
 unfold pMem at h
 split at h
 ·split at h
  ·rename_i es hh
   injection h with h
   unfold child
   simp only
   rw [if_pos hh,h]
  ·cases h
 ·cases h
section
variable {d x:Int} {f:Nat} {lv:Int} {q y:V} {k:By}
theorem mem_gd (h:gd d x (f + 1) lv q) (hm:pMem q k = some y):gd d x f (lv + 1) y ∧ (can f y).length ≤ (can (f + 1) q).length:=gd_child h (mem_child hm)
theorem pStr_of {s:By} {o:Option V} (h:pStrOf o = some s):o = some (vStr s):=by
 unfold pStrOf at h
 split at h
 ·injection h with h; subst h; rfl
 ·cases h
theorem str_bd {s:By} (h:gd d x (f + 1) lv q) (hm:pStrOf (pMem q k) = some s):Ut s ∧ s.length ≤ (can (f + 1) q).length:=by
 obtain ⟨h1,h2⟩:=mem_gd h (pStr_of hm)
 cases f with
 | zero=>exact h1.elim
 | succ f =>
  refine ⟨?_,Nat.le_trans str_ge h2⟩
  obtain ⟨_,h1⟩:=h1
  rcases h1 with ⟨k,_,e⟩ | ⟨s',hs,e⟩ | ⟨n,_,_,_,e⟩ | ⟨es,_,e⟩ | ⟨es,_,_,e⟩
  ·cases e
  ·cases e; exact hs
  ·cases e
  ·cases e
  ·cases e
theorem ptr_bd {p:List By} (h:gd d x (f + 1) lv q) (hl:(can (f + 1) q).length ≤ 100000) (hm:pPtrOf (pMem q k) = some p):PathOk p:=by
 unfold pPtrOf at hm
 split at hm
 ·rename_i s hs
  obtain ⟨h1,h2⟩:=str_bd h hs
  exact toks_ok h1 (by omega) hm
 ·cases hm
theorem item_ok {o:Op2} (h:gd (d + 2) x (f + 2) 2 q) (hl:(can (f + 2) q).length ≤ 80000) (hf:f + 2 ≤ top) (hd:d ≤ 400) (hm:pItem q = some o):OpOk (d + 2) x 200000 o:=by
 have hl2:(can (f + 1 + 1) q).length ≤ 80000:=hl
 unfold pItem at hm
 split at hm
 ·cases hm
 ·rename_i p hp
  split at hm
  ·cases hm
  ·rename_i k hk
   injection hm with hm
   subst hm
   obtain ⟨k1,k2,k3⟩:=kindOf_facts hk
   refine ⟨ptr_bd h (by omega) hp,fun h3=>?_,fun h3=>?_⟩
   ·have h4:=k3 h3
    cases hq:pPtrOf (pMem q from_) with
    | none=>rw [hq] at h4; cases h4
    | some u=>exact ptr_bd h (by omega) hq
   ·have h4:=k2 h3
    cases hq:pMem q value_ with
    | none=>rw [hq] at h4; cases h4
    | some u =>
     obtain ⟨h5,h6⟩:=mem_gd h hq
     have h7:=gd_lvl (s:=-2) h5
     have h8:gd d x (f + 1) 1 u:=by
      have e1:d + 2 + -2 = d:=by omega
      have e2:(2:Int) + 1 + -2 = 1:=by omega
      rw [e1,e2] at h7; exact h7
     have h9:=gd_mono (D:=d + 2) (by omega) h8
     have h10:gd (d + 2) x top 1 u:=gd_fuel h9 (by unfold top; omega)
     refine ⟨h10,by omega,?_⟩
     have h11:=(can_sz h8).2
     show sz top u ≤ 200000
     rw [sz_up h8 (by omega)]
     omega
theorem items_ok:∀ {es:List V} {i:Nat} {l:List Op2},(∀ q ∈ es,gd (d + 2) x (f + 2) 2 q ∧ (can (f + 2) q).length ≤ 80000) → f + 2 ≤ top → d ≤ 400 → pItems i es = .ok l → l.length = es.length ∧ ∀ o ∈ l,OpOk (d + 2) x 200000 o
 | [],i,l,_,_,_,h=>by injection h with h; subst h; exact ⟨rfl,fun o ho=>by cases ho⟩
 | q :: r,i,l,hq,hf,hd,h=>by
  unfold pItems at h
  split at h
  ·cases h
  ·rename_i o ho
   split at h
   ·rename_i l' hl'
    injection h with h
    subst h
    obtain ⟨h1,h2⟩:=items_ok (fun q' hq'=>hq q' (by simp [hq'])) hf hd hl'
    obtain ⟨h3,h4⟩:=hq q (by simp)
    exact ⟨by simp [h1],fun o' ho'=>(List.mem_cons.1 ho').elim (fun e=>e ▸ item_ok h3 h4 hf hd ho) (h2 o')⟩
   ·cases h
end
theorem pread_bd {d x:Int} {p:V} (hg:gd (d + 2) x top 1 p) (hl:(can top p).length ≤ 80000):∀ es y,p = .slice es y → es.length ≤ 80000 ∧ ∀ q ∈ es,gd (d + 2) x (top - 1) 2 q ∧ (can (top - 1) q).length ≤ 80000:=by
 intro es y e
 obtain ⟨_,hg⟩:=hg
 rcases hg with ⟨k,_,e1⟩ | ⟨s',hs,e1⟩ | ⟨n,_,_,_,e1⟩ | ⟨es',h,e1⟩ | ⟨es',_,_,e1⟩
 ·rw [e1] at e; cases e
 ·rw [e1] at e; cases e
 ·rw [e1] at e; cases e
 ·rw [e1] at e
  cases e
  subst e1
  obtain ⟨h1,h2⟩:=elem_can (f:=top - 1) (es:=es)
  have h3:(can (top - 1 + 1) (vArr es)).length ≤ 80000:=hl
  exact ⟨by omega,fun q hq=>⟨h q hq,by have:=h2 q hq; omega⟩⟩
 ·rw [e1] at e; cases e
theorem pread_ok {d x:Int} {p:V} {l:List Op2} (hg:gd (d + 2) x top 1 p) (hl:(can top p).length ≤ 80000) (hd:d ≤ 400) (h:pread p = .ok l):l.length ≤ 80000 ∧ ∀ o ∈ l,OpOk (d + 2) x 200000 o:=by
 have hb:=pread_bd hg hl
 unfold pread at h
 split at h
 ·rename_i es y
  obtain ⟨h1,h2⟩:=hb es y rfl
  obtain ⟨h3,h4⟩:=items_ok (f:=top - 3) h2 (by unfold top; omega) hd h
  exact ⟨by omega,h4⟩
 ·cases h
theorem pread_str {d x:Int} {p:V} (hg:gd (d + 2) x top 1 p) (hl:(can top p).length ≤ 80000):∀ es y,p = .slice es y → es.length ≤ 400000000 ∧ ∀ q ∈ es,∀ k s,pStrOf (pMem q k) = some s → s.length ≤ 1048576:=by
 intro es y e
 obtain ⟨h1,h2⟩:=pread_bd hg hl es y e
 refine ⟨by omega,fun q hq k s hs=>?_⟩
 obtain ⟨h3,h4⟩:=h2 q hq
 have:=(str_bd (f:=top - 2) h3 hs).2
 have h5:(can (top - 2 + 1) q).length ≤ 80000:=h4
 omega
end Sp
end Go.Proofs.YtdpomdelmdofmaaGreatDoor

namespace Go.Proofs.YtdpomdelmdofmaaGreatDoor
open Go.RowKit
def Plain (l:List Sp.St):Prop:=∀ o ∈ l,Fine o
def Scr (w:World) (sb so:Nat) (l:List Sp.St):Prop:=∀ i (h:i < l.length),w.cell? ⟨sb,so + i * 3,none⟩ = some (.int .i64 l[i].1) ∧ w.cell? ⟨sb,so + i * 3 + 1,none⟩ = some (.string ⟨l[i].2.1.toArray⟩) ∧ w.cell? ⟨sb,so + i * 3 + 2,none⟩ = some (.string ⟨l[i].2.2.toArray⟩)
def AnsC (cs:Array Value) (n:Nat) (a:List Sp.Ans):Prop:=cs.size = n * 3 ∧ ∀ i (h:i < a.length),cs[i * 3]? = some (.int .i64 a[i].1) ∧ cs[i * 3 + 1]? = some (.int .i64 a[i].2.1) ∧ cs[i * 3 + 2]? = some (.string ⟨a[i].2.2.toArray⟩)
theorem ans_info:(Tryz.prog.info? 46).map (fun i=>(i.zero,i.size,i.bytes)) = some (some (.agg #[.int .i64 0,.int .i64 0,.string ⟨#[]⟩]),3,32):=by kernel_rfl
set_option maxRecDepth 100000 in
theorem ans_make (n:Nat) (hn:n * 32 ≤ 281474976710656) (w:World):(Instr.makeSlice 43 (.int .i64 n) (.int .i64 n)).run Tryz.prog w = .ok (.slice (some ⟨w.heap.size,0,none⟩) n n) (w.alloc (.cells (madeCells #[.int .i64 0,.int .i64 0,.string ⟨#[]⟩] (n * 3)) 46)):=by
 obtain ⟨i,hi,h⟩:=Option.map_eq_some_iff.1 ans_info
 injection h with h1 h2
 injection h2 with h2 h3
 have:=run_make (P:=Tryz.prog) w 43 46 i _ Tryz.underlying43 hi h1 .i64 .i64 n n (by omega) (by omega) (by rw [h3]; omega) (by omega)
 rw [h2] at this
 simpa [Value.cells] using this
theorem row_set {w:World} {A t:Nat} {cs:Array Value} {fr:Nat × Nat} (h:w.heap[A]? = some (.cells cs t fr)) (o:Nat) (u:Value):(w.setCell ⟨A,o,none⟩ u).heap[A]? = some (.cells (cs.setIfInBounds o u) t fr):=by
 simp only [World.setCell,Array.getElem?_modify]
 rw [if_pos trivial,h]; rfl
theorem AnsC.snoc {cs:Array Value} {n:Nat} {a:List Sp.Ans} (h:AnsC cs n a) (x:Sp.Ans) (hl:a.length < n) :
  AnsC (((cs.setIfInBounds (a.length * 3) (.int .i64 x.1)).setIfInBounds (a.length * 3 + 1) (.int .i64 x.2.1)).setIfInBounds (a.length * 3 + 2) (.string ⟨x.2.2.toArray⟩)) n (a ++ [x]):=by
 obtain ⟨h1,h2⟩:=h
 refine ⟨by simpa using h1,fun i hi=>?_⟩
 simp only [Array.getElem?_setIfInBounds,Array.size_setIfInBounds]
 rw [List.length_append,List.length_singleton] at hi
 by_cases hx:i = a.length
 ·subst hx
  simp only [List.getElem_concat_length]
  refine ⟨?_,?_,?_⟩
  all_goals repeat' split
  all_goals first | rfl | omega | exact absurd trivial ‹¬True›
 ·have hia:i < a.length:=by omega
  rw [List.getElem_append_left hia]
  obtain ⟨e1,e2,e3⟩:=h2 i hia
  refine ⟨?_,?_,?_⟩
  ·rw [if_neg (by omega),if_neg (by omega),if_neg (by omega)]; exact e1
  ·rw [if_neg (by omega),if_neg (by omega),if_neg (by omega)]; exact e2
  ·rw [if_neg (by omega),if_neg (by omega),if_neg (by omega)]; exact e3
def RunI (d e n:Int) (l:List Sp.St) (S A m:Nat) (w0:World) (k:Nat) (w:World):Prop :=
 ∃ p cs,SB w S d e n p ∧ DocF w (fun j=>w0.heap.size ≤ j ∧ j ≠ S ∧ j ≠ A) p d e (Sp.docAfter d e n none (l.take k)) ∧ w.heap[A]? = some (.cells cs 46 (0,0)) ∧ AnsC cs m (Sp.run d e n none (l.take k)) ∧ Below w0.heap.size w0 w
theorem RunI.next {d e n:Int} {l:List Sp.St} {S A m k:Nat} {w0 w:World} {cs:Array Value} (hk:k < l.length) (hm:m = l.length) (hSA:S ≠ A) (hA0:w0.heap.size ≤ A) (hS0:w0.heap.size ≤ S) (hA:w.heap[A]? = some (.cells cs 46 (0,0))) (hans:AnsC cs m (Sp.run d e n none (l.take k))) (hb:Below w0.heap.size w0 w)
  {w1 w3:World} {o:Obj} (hw1:w1 = w.alloc o) (hSw:S < w.heap.size) {F:Nat → Prop} (hF:∀ j,F j → w0.heap.size ≤ j ∧ j ≠ S ∧ j ≠ A) (hst:StepEnd S d e n (Sp.docAfter d e n none (l.take k)) l[k] F w1 (.returned (ansA (Sp.step d e n (Sp.docAfter d e n none (l.take k)) l[k]).1)) w3) :
  RunI d e n l S A m w0 (k + 1) (((w3.setCell ⟨A,k * 3,none⟩ (.int .i64 (Sp.step d e n (Sp.docAfter d e n none (l.take k)) l[k]).1.1)).setCell ⟨A,k * 3 + 1,none⟩ (.int .i64 (Sp.step d e n (Sp.docAfter d e n none (l.take k)) l[k]).1.2.1)).setCell ⟨A,k * 3 + 2,none⟩ (.string ⟨(Sp.step d e n (Sp.docAfter d e n none (l.take k)) l[k]).1.2.2.toArray⟩)):=by
 obtain ⟨_,hk3,p',hsb,hdoc⟩:=hst
 have hAl:A < w.heap.size:=(Array.getElem?_eq_some_iff.1 hA).1
 have hA1:w1.heap[A]? = some (.cells cs 46 (0,0)):=by rw [hw1]; exact (Below.heap_alloc _ _ _ hAl).trans hA
 have hs1:w1.heap.size = w.heap.size + 1:=by rw [hw1]; simp
 have hA3:w3.heap[A]? = some (.cells cs 46 (0,0)):=(hk3.block A (by omega) (fun h=>by
  rcases h with h | h
  ·exact (hF A h).2.2 rfl
  ·omega)).trans hA1
 have hlen:(Sp.run d e n none (l.take k)).length = k:=by rw [Sp.run_len,List.length_take]; omega
 have htk:l.take (k + 1) = l.take k ++ [l[k]]:=List.take_succ_eq_append_getElem hk
 have hrow:=row_set (row_set (row_set hA3 (k * 3) (.int .i64 (Sp.step d e n (Sp.docAfter d e n none (l.take k)) l[k]).1.1)) (k * 3 + 1) (.int .i64 (Sp.step d e n (Sp.docAfter d e n none (l.take k)) l[k]).1.2.1)) (k * 3 + 2) (.string ⟨(Sp.step d e n (Sp.docAfter d e n none (l.take k)) l[k]).1.2.2.toArray⟩)
 have hans':=hans.snoc (Sp.step d e n (Sp.docAfter d e n none (l.take k)) l[k]).1 (by omega)
 rw [hlen,← Sp.run_snoc,← htk] at hans'
 have ho:∀ j,j ≠ A → (((w3.setCell ⟨A,k * 3,none⟩ (.int .i64 (Sp.step d e n (Sp.docAfter d e n none (l.take k)) l[k]).1.1)).setCell ⟨A,k * 3 + 1,none⟩ (.int .i64 (Sp.step d e n (Sp.docAfter d e n none (l.take k)) l[k]).1.2.1)).setCell ⟨A,k * 3 + 2,none⟩ (.string ⟨(Sp.step d e n (Sp.docAfter d e n none (l.take k)) l[k]).1.2.2.toArray⟩)).heap[j]? = w3.heap[j]?:=fun j hj =>
  (Below.heap_setCell _ _ _ _ hj).trans ((Below.heap_setCell _ _ _ _ hj).trans (Below.heap_setCell _ _ _ _ hj))
 refine ⟨p',_,(ho S hSA).trans hsb,?_,hrow,hans',?_⟩
 ·rw [htk,Sp.after_snoc]
  refine hdoc.move fun j h1 _=>?_
  have hj:w0.heap.size ≤ j ∧ j ≠ S ∧ j ≠ A:=by
   rcases h1 with h1 | h1
   ·exact hF j h1.1
   ·exact ⟨by have:=hb.size; omega,by omega,by omega⟩
  exact ⟨ho j hj.2.2,hj⟩
 ·have hb1:Below w0.heap.size w0 w1:=by rw [hw1]; exact hb.alloc (by omega) _
  have hb3:Below w0.heap.size w0 w3:=hb1.trans (hk3.below (fun j hj h=>by
   rcases h with h | h
   ·have:=(hF j h).1; omega
   ·omega) hb1.size)
  exact below_set (below_set (below_set hb3 A _ hA0 _) A _ hA0 _) A _ hA0 _
theorem AnsC.cell {cs:Array Value} {n:Nat} {a:List Sp.Ans} (h:AnsC cs n a) (j:Nat) (hj:j < n * 3):∃ u,cs[j]? = some u:=by
 have:=h.1
 exact ⟨cs[j],by rw [Array.getElem?_eq_getElem (by omega)]⟩
set_option maxRecDepth 100000 in
set_option maxHeartbeats 4000000 in
theorem Run_some {d e n:Int} {sb so m cap:Nat} {l:List Sp.St} {w:World} (hs:Scr w sb so l) (hpl:Plain l) (hm:m = l.length) (hpos:0 < m) (hcap:m ≤ cap) (hb:m * 32 ≤ 281474976710656) (hsb:sb < w.heap.size) (hT:Laid w) :
  Calls Tryz.prog 24 #[.agg #[.int .i64 d,.int .i64 e,.int .i64 n],.slice (some ⟨sb,so,none⟩) m cap] w fun x w'=>∃ A cs,x = .returned (.slice (some ⟨A,0,none⟩) m m) ∧ w.heap.size ≤ A ∧ w'.heap[A]? = some (.cells cs 46 (0,0)) ∧ AnsC cs m (Sp.run d e n none l) ∧ Below w.heap.size w w':=by
 have hmk:=ans_make m hb
 have hnb:(m:Int) ≤ 9223372036854775807:=by omega
 have HM:=hide hm
 have HS:=hide hs
 have HT:=hide hT
 have hng:=hT.ng
 have HI0:Hid (RunI d e n l (w.heap.size + 1 + 1) (w.heap.size + 1) m w 0 (((w.alloc (.cells #[.int .i64 d,.int .i64 e,.int .i64 n] 23)).alloc (.cells (madeCells #[.int .i64 0,.int .i64 0,.string ⟨#[]⟩] (m * 3)) 46)).alloc (.cells #[.int .i64 d,.int .i64 e,.int .i64 n,.pointer none] 62))):=by
  refine ⟨.pointer none,madeCells #[.int .i64 0,.int .i64 0,.string ⟨#[]⟩] (m * 3),?_,rfl,?_,⟨size_madeCells _ _,fun i hi=>absurd hi (by simp [Sp.run])⟩,(((Below.refl _ w).alloc (Nat.le_refl _) _).alloc (by simp) _).alloc (by simp; omega) _⟩
  ·show (((w.heap.push _).push _).push _)[w.heap.size + 1 + 1]? = _
   simp only [Array.getElem?_push,Array.size_push]
   rw [if_pos trivial]
  ·show (((w.heap.push _).push _).push _)[w.heap.size + 1]? = _
   simp only [Array.getElem?_push,Array.size_push]
   rw [if_neg (by omega),if_pos trivial]
 have HPL:=hide hpl
 clear hm hs hT hpl
 go_enter Tryz.func24,Tryz.ntmps24
 go_wp2_with (fail)
 go_loopw [16] (fun i wr=>∃ k:Nat,k ≤ m ∧ i = .int .i64 k ∧ RunI d e n l (w.heap.size + 1 + 1) (w.heap.size + 1) m w k wr) (fun i _=>m - (intOf i).toNat)
 case atStart=>exact ⟨0,by omega,rfl,unhide HI0⟩
 case round =>
  obtain ⟨k,hk,rfl,p,cs,hsbk,hdoc,hrow,hans,hbel⟩:=hrel
  by_cases hlt:k < m
  ·have hkl:k < l.length:=by have:=unhide HM; omega
   obtain ⟨q0,q1,q2⟩:=unhide HS k hkl
   have cc0:wr.cell? ⟨sb,so + k * 3,none⟩ = some (.int .i64 l[k].1):=(hbel.cell (p:=⟨sb,so + k * 3,none⟩) hsb).trans q0
   have cc1:wr.cell? ⟨sb,so + k * 3 + 1,none⟩ = some (.string ⟨l[k].2.1.toArray⟩):=(hbel.cell (p:=⟨sb,so + k * 3 + 1,none⟩) hsb).trans q1
   have cc2:wr.cell? ⟨sb,so + k * 3 + 2,none⟩ = some (.string ⟨l[k].2.2.toArray⟩):=(hbel.cell (p:=⟨sb,so + k * 3 + 2,none⟩) hsb).trans q2
   have HSB:=hide hsbk
   have HDOC:=hide hdoc
   have HROW:=hide hrow
   have HANS:=hide hans
   have HBEL:=hide hbel
   have hSlt:=hsbk.lt
   have hle:=hbel.size
   clear q0 q1 q2 hsbk hdoc hrow hans hbel HI0
   have hA1:w.heap.size + 1 < wr.heap.size:=(Array.getElem?_eq_some_iff.1 (unhide HROW)).1
   go_wp2_with (fail)
   have hba:Below wr.heap.size wr (wr.alloc (.cells #[.int .i64 l[k].1,.string ⟨l[k].2.1.toArray⟩,.string ⟨l[k].2.2.toArray⟩] 49)):=(Below.refl _ _).alloc (Nat.le_refl _) _
   have hd1:DocF (wr.alloc (.cells #[.int .i64 l[k].1,.string ⟨l[k].2.1.toArray⟩,.string ⟨l[k].2.2.toArray⟩] 49)) (fun j=>w.heap.size ≤ j ∧ j ≠ w.heap.size + 1 + 1 ∧ j ≠ w.heap.size + 1) p d e (Sp.docAfter d e n none (l.take k)):=(unhide HDOC).move fun j h1 h2=>⟨hba.block j h2,h1⟩
   refine (step_any l[k].1 l[k].2.1 l[k].2.2 (fun j hj=>⟨Nat.le_trans hng hj.1,hj.2.1⟩) ((unhide HPL) _ (List.getElem_mem hkl)) ((unhide HSB).low hba) hd1 (((unhide HT).below ((unhide HBEL).mono hng)).below (hba.mono (by omega)))).mono ?_
   rintro x w3 hst
   have hx:=hst.1
   subst hx
   have hst2:=hst
   have hk3:=hst2.2.1
   have hA3:w3.heap[w.heap.size + 1]? = some (.cells cs 46 (0,0)):=(hk3.block _ (by simp; omega) (by omega)).trans ((Below.heap_alloc _ _ _ hA1).trans (unhide HROW))
   obtain ⟨u0,hu0⟩:=(unhide HANS).cell (k * 3) (by omega)
   obtain ⟨u1,hu1⟩:=(unhide HANS).cell (k * 3 + 1) (by omega)
   obtain ⟨u2,hu2⟩:=(unhide HANS).cell (k * 3 + 2) (by omega)
   have g0:w3.cell? ⟨w.heap.size + 1,k * 3,none⟩ = some u0:=by simp [World.cell?,hA3,hu0]
   have g1:w3.cell? ⟨w.heap.size + 1,k * 3 + 1,none⟩ = some u1:=by simp [World.cell?,hA3,hu1]
   have g2:w3.cell? ⟨w.heap.size + 1,k * 3 + 2,none⟩ = some u2:=by simp [World.cell?,hA3,hu2]
   have z:∀ o,w3.frozen? ⟨w.heap.size + 1,o,none⟩ = false:=fun o=>by simp [World.frozen?,hA3]
   have HST:=hide hst
   clear hst hst2 hk3 hA3 hba hd1 hu0 hu1 hu2
   unfold ansA
   go_wp2_with (fail)
   exact ⟨⟨k + 1,by omega,by go_num,RunI.next hkl (unhide HM) (by omega) (by omega) (by omega) (unhide HROW) (unhide HANS) (unhide HBEL) rfl hSlt (fun j hj=>hj) (unhide HST)⟩,by simp [intOf]; omega⟩
  ·go_wp2_with (fail)
   go_ret
   have hkm:k = m:=by omega
   subst hkm
   rw [List.take_of_length_le (by have:=unhide HM; omega)] at hans
   exact ⟨_,cs,rfl,by omega,hrow,hans,hbel⟩
end Go.Proofs.YtdpomdelmdofmaaGreatDoor
